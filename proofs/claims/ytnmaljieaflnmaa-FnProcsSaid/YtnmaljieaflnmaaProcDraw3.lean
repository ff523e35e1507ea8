/-
  The draws of the chapter on processors, third part.
-/
import Derived.Test.YtnmaljieaflnmaaProcDraw2
namespace Go.Proofs.Ytnmaljieaflnmaa
open Go.RowKit Go.Joins
set_option linter.unusedVariables false

set_option maxRecDepth 100000 in
set_option maxHeartbeats 4000000 in
theorem drawWakeOf_any {len : Nat} {sl : Value} {w : World} (hlen : len ≤ 4096) (hcode : CodeAt w w.heap.size sl len) :
    Calls Try.prog 12 #[sl] w fun x w' => ∃ (v : Value) (n : Nat) (f : Slots) (l e d : Int), x = .returned (prV v l e d) ∧ OwnRow w' w.heap.size v n f ∧ lowHeap f n ∧ Below w.heap.size w w' := by
  have k0 := (Below.refl w.heap.size w).alloc (Nat.le_refl _) (.cells #[.slice none 0 0, .int .i64 0, .int .i64 0, .int .i64 0] 28)
  have e0 : (w.alloc (.cells #[.slice none 0 0, .int .i64 0, .int .i64 0, .int .i64 0] 28)).heap.size = w.heap.size + 1 := by simp
  have hR := heap_alloc_new w (.cells #[.slice none 0 0, .int .i64 0, .int .i64 0, .int .i64 0] 28)
  have hcode2 := hcode.below k0
  have hgB : w.heap.size ≤ w.heap.size + 1 := by omega
  go_enter Try.func12, Try.ntmps12
  go_wp2_with fail
  go_at_call 39; refine (l1New_any (w.heap.size + 1) e0.symm hlen hcode2 (by omega)).mono ?_; rintro x w1 ⟨rfl, hC1, hb1⟩
  replace hR := b_block hb1 hR (by omega)
  have hbb := k0.trans (hb1.mono (by omega))
  have hs1 : w.heap.size + 1 < w1.heap.size := hC1.lt
  clear hb1 k0 hcode2
  go_wp2_with fail
  go_at_call 40; refine (l1DrawPlan_any hC1).mono ?_; rintro x w2 ⟨a, b, c, ⟨_, ⟨b0, b1⟩, _⟩, rfl, hC2, hg⟩
  replace hR := g_block hg hR (by omega)
  replace hbb := hbb.trans (b_grown hg hgB hbb.size)
  have hs2 : w.heap.size + 1 < w2.heap.size := hC2.lt
  clear hg hC1 hs1
  go_wp2_with fail
  go_at_call 41; refine (l4Draw_any a b c b0 (by omega) hC2).mono ?_; rintro x w3 ⟨v, n, f, l, e, d, rfl, hO, hL, hC3, hg⟩
  replace hR := alloc_block (.cells #[v, .int .i64 l, .int .i64 e, .int .i64 d] 28) (g_block hg hR (by omega))
  replace hbb := (hbb.trans (b_grown hg hgB hbb.size)).alloc (Nat.le_trans hbb.size hg.size) (.cells #[v, .int .i64 l, .int .i64 e, .int .i64 d] 28)
  have hs3 : w.heap.size + 1 < w3.heap.size := hC3.lt
  have hO4 := (hO.mono (B' := w.heap.size + 2) hs2).alloc (.cells #[v, .int .i64 l, .int .i64 e, .int .i64 d] 28)
  have hXN := hO.notNew (Nat.le_refl w3.heap.size)
  have hX := heap_alloc_new w3 (.cells #[v, .int .i64 l, .int .i64 e, .int .i64 d] 28)
  have hC4 := hC3.alloc (.cells #[v, .int .i64 l, .int .i64 e, .int .i64 d] 28)
  obtain ⟨va, vc, hv⟩ := hO.row.form
  clear hg hC2 hC3 hO hs2
  subst hv
  go_wp2_with fail
  go_at_call 42; refine (l1Once_any 12 (by omega) (by omega) hC4).mono ?_; rintro x w5 ⟨q, rfl, hC5, hg⟩
  replace hR := g_block hg hR (by omega)
  replace hX := g_block hg hX (by omega)
  replace hbb := hbb.trans (b_grown hg hgB hbb.size)
  have hO5 := hO4.kept hg (fun g' e => by injection e; omega)
  clear hg hC4 hO4
  cases q
  · obtain ⟨r0, r1, r2, r3, rf0, rf1, rf2, rf3⟩ := four hR
    obtain ⟨t0, t1, t2, t3, tf0, tf1, tf2, tf3⟩ := four hX
    have hO8 := ((((hO5).set (b := w.heap.size) (by omega) 0 (.slice va n vc)).set (b := w.heap.size) (by omega) 1 (.int .i64 l)).set (b := w.heap.size) (by omega) 2 (.int .i64 e)).set (b := w.heap.size) (by omega) 3 (.int .i64 d)
    have hb8 := (((hbb).setCell (p := ⟨w.heap.size, 0, none⟩) (Nat.le_refl _) (.slice va n vc)).setCell (p := ⟨w.heap.size, 1, none⟩) (Nat.le_refl _) (.int .i64 l)).setCell (p := ⟨w.heap.size, 2, none⟩) (Nat.le_refl _) (.int .i64 e) |>.setCell (p := ⟨w.heap.size, 3, none⟩) (Nat.le_refl _) (.int .i64 d)
    clear hR hX
    go_wp2
    exact bodyPost_ret (v := prV (.slice va n vc) l e d) (by simp [results, Try.results12, go_sem, r0, r1, r2, r3]) rfl ⟨_, n, f, l, e, d, rfl, hO8.mono (show w.heap.size ≤ w.heap.size + 2 by omega), hL, hb8⟩
  · go_wp2_with fail
    go_at_call 45; refine (l1From_any (-3) 3 (by omega) (by omega) (by omega) hC5).mono ?_; rintro x w6 ⟨y, y0, y1, rfl, hC6, hg⟩
    replace hR := g_block hg hR (by omega)
    replace hX := g_block hg hX (by omega)
    replace hbb := hbb.trans (b_grown hg hgB hbb.size)
    have hO6 := hO5.kept hg (fun g' e => by injection e; omega)
    clear hg hC5 hO5
    obtain ⟨r0, r1, r2, r3, rf0, rf1, rf2, rf3⟩ := four hR
    obtain ⟨t0, t1, t2, t3, tf0, tf1, tf2, tf3⟩ := four hX
    have hO8 := ((((hO6.setNe hXN 2 (.int .i64 y)).set (b := w.heap.size) (by omega) 0 (.slice va n vc)).set (b := w.heap.size) (by omega) 1 (.int .i64 l)).set (b := w.heap.size) (by omega) 2 (.int .i64 y)).set (b := w.heap.size) (by omega) 3 (.int .i64 d)
    have hb8 := (((hbb.setCell (p := ⟨w3.heap.size, 2, none⟩) (by show w.heap.size ≤ w3.heap.size; omega) (.int .i64 y)).setCell (p := ⟨w.heap.size, 0, none⟩) (Nat.le_refl _) (.slice va n vc)).setCell (p := ⟨w.heap.size, 1, none⟩) (Nat.le_refl _) (.int .i64 l)).setCell (p := ⟨w.heap.size, 2, none⟩) (Nat.le_refl _) (.int .i64 y) |>.setCell (p := ⟨w.heap.size, 3, none⟩) (Nat.le_refl _) (.int .i64 d)
    clear hR hX
    go_wp2
    exact bodyPost_ret (v := prV (.slice va n vc) l y d) (by simp [results, Try.results12, go_sem, r0, r1, r2, r3]) rfl ⟨_, n, f, l, y, d, rfl, hO8.mono (show w.heap.size ≤ w.heap.size + 2 by omega), hL, hb8⟩

end Go.Proofs.Ytnmaljieaflnmaa
