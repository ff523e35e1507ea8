/-
  Who rests (spec, chapter 7).
-/
import Derived.Test.YtmealgiknkmibaaHands
namespace Go.Proofs.Ytmealgiknkmibaa
open Go.RowKit Go.Joins
set_option linter.unusedVariables false

/-- a hand is stored into a block of its kind -/
theorem set_hand {w : World} {B : Nat} {x0 x1 x2 x3 x4 x5 x6 x7 x8 x9 x10 x11 : Value} {t : TypeId} {h : Hd} (h0 : w.heap[B]? = some (.cells #[x0, x1, x2, x3, x4, x5, x6, x7, x8, x9, x10, x11] t (0, 0))) :
    ((((((((((((w.setCell ⟨B, 0, none⟩ (.int .i64 h.pos)).setCell ⟨B, 1, none⟩ (.int .i64 h.call.code)).setCell ⟨B, 2, none⟩ (.int .i64 h.call.a)).setCell ⟨B, 3, none⟩ (.int .i64 h.call.b)).setCell ⟨B, 4, none⟩ (.int .i64 h.call.c)).setCell ⟨B, 5, none⟩ (.int .i64 h.tim)).setCell ⟨B, 6, none⟩ (.int .i64 h.whe)).setCell ⟨B, 7, none⟩ (.bool h.had)).setCell ⟨B, 8, none⟩ (.int .i64 h.cnt)).setCell ⟨B, 9, none⟩ (.int .i64 h.beg)).setCell ⟨B, 10, none⟩ (.int .i64 h.rep)).setCell ⟨B, 11, none⟩ (.int .i64 h.out)).heap[B]? = some (.cells (hdCells h) t (0, 0)) := by
  have hx := (block_setCell (i := 11) (block_setCell (i := 10) (block_setCell (i := 9) (block_setCell (i := 8) (block_setCell (i := 7) (block_setCell (i := 6) (block_setCell (i := 5) (block_setCell (i := 4) (block_setCell (i := 3) (block_setCell (i := 2) (block_setCell (i := 1) (block_setCell (i := 0) h0 (.int .i64 h.pos)) (.int .i64 h.call.code)) (.int .i64 h.call.a)) (.int .i64 h.call.b)) (.int .i64 h.call.c)) (.int .i64 h.tim)) (.int .i64 h.whe)) (.bool h.had)) (.int .i64 h.cnt)) (.int .i64 h.beg)) (.int .i64 h.rep)) (.int .i64 h.out))
  simp only [List.setIfInBounds_toArray, List.set_cons_zero, List.set_cons_succ] at hx
  exact hx
theorem b_set_hand {W w : World} {n B : Nat} {h : Hd} (hb : Below n W w) (hn : n ≤ B) :
    Below n W ((((((((((((w.setCell ⟨B, 0, none⟩ (.int .i64 h.pos)).setCell ⟨B, 1, none⟩ (.int .i64 h.call.code)).setCell ⟨B, 2, none⟩ (.int .i64 h.call.a)).setCell ⟨B, 3, none⟩ (.int .i64 h.call.b)).setCell ⟨B, 4, none⟩ (.int .i64 h.call.c)).setCell ⟨B, 5, none⟩ (.int .i64 h.tim)).setCell ⟨B, 6, none⟩ (.int .i64 h.whe)).setCell ⟨B, 7, none⟩ (.bool h.had)).setCell ⟨B, 8, none⟩ (.int .i64 h.cnt)).setCell ⟨B, 9, none⟩ (.int .i64 h.beg)).setCell ⟨B, 10, none⟩ (.int .i64 h.rep)).setCell ⟨B, 11, none⟩ (.int .i64 h.out)) :=
  ((((((((((((hb.setCell (p := ⟨B, 0, none⟩) hn (.int .i64 h.pos)).setCell (p := ⟨B, 1, none⟩) hn (.int .i64 h.call.code)).setCell (p := ⟨B, 2, none⟩) hn (.int .i64 h.call.a)).setCell (p := ⟨B, 3, none⟩) hn (.int .i64 h.call.b)).setCell (p := ⟨B, 4, none⟩) hn (.int .i64 h.call.c)).setCell (p := ⟨B, 5, none⟩) hn (.int .i64 h.tim)).setCell (p := ⟨B, 6, none⟩) hn (.int .i64 h.whe)).setCell (p := ⟨B, 7, none⟩) hn (.bool h.had)).setCell (p := ⟨B, 8, none⟩) hn (.int .i64 h.cnt)).setCell (p := ⟨B, 9, none⟩) hn (.int .i64 h.beg)).setCell (p := ⟨B, 10, none⟩) hn (.int .i64 h.rep)).setCell (p := ⟨B, 11, none⟩) hn (.int .i64 h.out))

set_option maxRecDepth 100000 in
set_option maxHeartbeats 1000000 in
theorem spResting_any (r o : Int) (w : World) : Calls Try.prog 13 #[.int .i64 r, .int .i64 o] w fun e w' => e = .returned (hdV (restHd r o)) ∧ Below w.heap.size w w' := by
  have k0 := (Below.refl w.heap.size w).alloc (Nat.le_refl _) (.cells #[.int .i64 0, .int .i64 0, .int .i64 0, .int .i64 0, .int .i64 0, .int .i64 0, .int .i64 0, .bool false, .int .i64 0, .int .i64 0, .int .i64 0, .int .i64 0] 33)
  have kk := Below.refl (w.alloc (.cells #[.int .i64 0, .int .i64 0, .int .i64 0, .int .i64 0, .int .i64 0, .int .i64 0, .int .i64 0, .bool false, .int .i64 0, .int .i64 0, .int .i64 0, .int .i64 0] 33)).heap.size (w.alloc (.cells #[.int .i64 0, .int .i64 0, .int .i64 0, .int .i64 0, .int .i64 0, .int .i64 0, .int .i64 0, .bool false, .int .i64 0, .int .i64 0, .int .i64 0, .int .i64 0] 33))
  have p0 := heap_alloc_new w (.cells #[.int .i64 0, .int .i64 0, .int .i64 0, .int .i64 0, .int .i64 0, .int .i64 0, .int .i64 0, .bool false, .int .i64 0, .int .i64 0, .int .i64 0, .int .i64 0] 33)
  go_enter Try.func13, Try.ntmps13
  go_wp2_with fail
  go_at_call 10; refine (spNewHand_any _).mono ?_; rintro e w1 ⟨rfl, hb⟩; replace kk := kk.trans (hb.mono kk.size); clear hb
  have hz := kk.size
  simp at hz
  replace p0 := b_block kk p0 (by simp)
  generalize hB : w.heap.size = B at p0 hz ⊢
  have kw := k0.trans (kk.mono k0.size)
  clear kk
  have c0 : ∀ X : Obj, (w1.alloc X).cell? ⟨B, 0, none⟩ = some (.int .i64 0) := fun X => cell_of_block (alloc_block X p0) 0
  have f0 : ∀ X : Obj, (w1.alloc X).frozen? ⟨B, 0, none⟩ = false := fun X => unfrozen_of_block (alloc_block X p0) 0
  have c1 : ∀ X : Obj, (w1.alloc X).cell? ⟨B, 1, none⟩ = some (.int .i64 0) := fun X => cell_of_block (alloc_block X p0) 1
  have f1 : ∀ X : Obj, (w1.alloc X).frozen? ⟨B, 1, none⟩ = false := fun X => unfrozen_of_block (alloc_block X p0) 1
  have c2 : ∀ X : Obj, (w1.alloc X).cell? ⟨B, 2, none⟩ = some (.int .i64 0) := fun X => cell_of_block (alloc_block X p0) 2
  have f2 : ∀ X : Obj, (w1.alloc X).frozen? ⟨B, 2, none⟩ = false := fun X => unfrozen_of_block (alloc_block X p0) 2
  have c3 : ∀ X : Obj, (w1.alloc X).cell? ⟨B, 3, none⟩ = some (.int .i64 0) := fun X => cell_of_block (alloc_block X p0) 3
  have f3 : ∀ X : Obj, (w1.alloc X).frozen? ⟨B, 3, none⟩ = false := fun X => unfrozen_of_block (alloc_block X p0) 3
  have c4 : ∀ X : Obj, (w1.alloc X).cell? ⟨B, 4, none⟩ = some (.int .i64 0) := fun X => cell_of_block (alloc_block X p0) 4
  have f4 : ∀ X : Obj, (w1.alloc X).frozen? ⟨B, 4, none⟩ = false := fun X => unfrozen_of_block (alloc_block X p0) 4
  have c5 : ∀ X : Obj, (w1.alloc X).cell? ⟨B, 5, none⟩ = some (.int .i64 0) := fun X => cell_of_block (alloc_block X p0) 5
  have f5 : ∀ X : Obj, (w1.alloc X).frozen? ⟨B, 5, none⟩ = false := fun X => unfrozen_of_block (alloc_block X p0) 5
  have c6 : ∀ X : Obj, (w1.alloc X).cell? ⟨B, 6, none⟩ = some (.int .i64 0) := fun X => cell_of_block (alloc_block X p0) 6
  have f6 : ∀ X : Obj, (w1.alloc X).frozen? ⟨B, 6, none⟩ = false := fun X => unfrozen_of_block (alloc_block X p0) 6
  have c7 : ∀ X : Obj, (w1.alloc X).cell? ⟨B, 7, none⟩ = some (.bool false) := fun X => cell_of_block (alloc_block X p0) 7
  have f7 : ∀ X : Obj, (w1.alloc X).frozen? ⟨B, 7, none⟩ = false := fun X => unfrozen_of_block (alloc_block X p0) 7
  have c8 : ∀ X : Obj, (w1.alloc X).cell? ⟨B, 8, none⟩ = some (.int .i64 0) := fun X => cell_of_block (alloc_block X p0) 8
  have f8 : ∀ X : Obj, (w1.alloc X).frozen? ⟨B, 8, none⟩ = false := fun X => unfrozen_of_block (alloc_block X p0) 8
  have c9 : ∀ X : Obj, (w1.alloc X).cell? ⟨B, 9, none⟩ = some (.int .i64 0) := fun X => cell_of_block (alloc_block X p0) 9
  have f9 : ∀ X : Obj, (w1.alloc X).frozen? ⟨B, 9, none⟩ = false := fun X => unfrozen_of_block (alloc_block X p0) 9
  have c10 : ∀ X : Obj, (w1.alloc X).cell? ⟨B, 10, none⟩ = some (.int .i64 0) := fun X => cell_of_block (alloc_block X p0) 10
  have f10 : ∀ X : Obj, (w1.alloc X).frozen? ⟨B, 10, none⟩ = false := fun X => unfrozen_of_block (alloc_block X p0) 10
  have c11 : ∀ X : Obj, (w1.alloc X).cell? ⟨B, 11, none⟩ = some (.int .i64 0) := fun X => cell_of_block (alloc_block X p0) 11
  have f11 : ∀ X : Obj, (w1.alloc X).frozen? ⟨B, 11, none⟩ = false := fun X => unfrozen_of_block (alloc_block X p0) 11
  go_wp2
  obtain ⟨X, hX⟩ : ∃ X : Obj, X = .cells (hdCells ⟨newHd.pos, newHd.call, newHd.tim, newHd.whe, newHd.had, newHd.cnt, newHd.beg, r, o⟩) 33 := ⟨_, rfl⟩
  have r0 := set_hand (h := ⟨newHd.pos, newHd.call, newHd.tim, newHd.whe, newHd.had, newHd.cnt, newHd.beg, r, o⟩) (alloc_block X p0)
  have hb := b_set_hand (n := w.heap.size) (h := ⟨newHd.pos, newHd.call, newHd.tim, newHd.whe, newHd.had, newHd.cnt, newHd.beg, r, o⟩) ((kw.alloc kw.size X)) (Nat.le_of_eq hB)
  rw [hX] at r0 hb
  have hq := r0
  clear r0
  have r0 := cell_of_block hq 0
  have r1 := cell_of_block hq 1
  have r2 := cell_of_block hq 2
  have r3 := cell_of_block hq 3
  have r4 := cell_of_block hq 4
  have r5 := cell_of_block hq 5
  have r6 := cell_of_block hq 6
  have r7 := cell_of_block hq 7
  have r8 := cell_of_block hq 8
  have r9 := cell_of_block hq 9
  have r10 := cell_of_block hq 10
  have r11 := cell_of_block hq 11
  exact bodyPost_ret (v := hdV ⟨newHd.pos, newHd.call, newHd.tim, newHd.whe, newHd.had, newHd.cnt, newHd.beg, r, o⟩) (by simp [results, Try.results13, go_sem, r0, r1, r2, r3, r4, r5, r6, r7, r8, r9, r10, r11]) rfl ⟨rfl, hb⟩

end Go.Proofs.Ytmealgiknkmibaa
