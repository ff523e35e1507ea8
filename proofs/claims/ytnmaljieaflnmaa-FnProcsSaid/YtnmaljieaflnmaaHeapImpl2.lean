/-
  The program's FindSlot (chapter 2), by the library's IndexFunc and a closure.
-/
import Derived.Test.YtnmaljieaflnmaaHeapOf
import Derived.Test.YtnmaljieaflnmaaHeapExact
namespace Go.Proofs.Ytnmaljieaflnmaa
open Go.RowKit Go.Joins
set_option linter.unusedVariables false

set_option maxHeartbeats 400000 in
theorem findClo_is {b : Nat} {id x y : Int} (r : Bool) (hr : (x == id) = r) {w : World} (hc : w.cell? ⟨b, 0, none⟩ = some (.int .i64 id)) :
    Calls Try.prog 134 #[.agg #[.int .i64 x, .int .i64 y], .pointer (some ⟨b, 0, none⟩)] w fun e w' => e = .returned (.bool r) ∧ Below w.heap.size w w' := by
  have hl := World.block_lt_of_cell? w _ hc
  have c0 := (World.cell?_alloc_lt w (.cells #[.int .i64 x, .int .i64 y] 35) ⟨b, 0, none⟩ hl).trans hc
  clear hc
  go_enter Try.func134, Try.ntmps134
  go_wp2
  go_ret
  exact ⟨ret_bool (by first | rfl | exact hr), (Below.refl _ _).alloc (Nat.le_refl _) _⟩

set_option maxRecDepth 100000 in
set_option maxHeartbeats 1000000 in
theorem indexFunc_any {v : Value} {n bx : Nat} {f : Slots} {id : Int} {w : World} (hn : n ≤ 1048576) (h : RowAt w v n f) (hx : w.cell? ⟨bx, 0, none⟩ = some (.int .i64 id)) :
    Calls Try.prog 133 #[v, .func (.func 134) #[] #[.pointer (some ⟨bx, 0, none⟩)]] w fun e w' => e = .returned (.int .i64 (findFrom f n id 0)) ∧ Below w.heap.size w w' := by
  have hbx := World.block_lt_of_cell? w _ hx
  have HX := Lib.hid hx
  clear hx
  rcases h with ⟨rfl, a, cap, rfl⟩ | ⟨b, off, cap, rfl, hl, hc⟩
  · rw [findFrom_out (Nat.lt_irrefl 0)]
    go_enter Try.func133, Try.ntmps133
    go_wp2_with fail
    refine wp_loop_rounds 1 ?_
    rw [rounds_succ]
    go_wp2
    go_ret
    exact ⟨rfl, Below.refl _ _⟩
  · have H := Lib.hid hc
    clear hc
    go_enter Try.func133, Try.ntmps133
    go_wp2_with fail
    go_loopw [8] (fun i wr => ∃ k : Nat, k ≤ n ∧ i = .int .i64 k ∧ Below w.heap.size w wr ∧ Hid (findFrom f n id 0 = findFrom f n id k)) (fun i _ => n - (intOf i).toNat)
    case atStart => exact ⟨0, Nat.zero_le _, rfl, Below.refl _ _, Lib.hid rfl⟩
    case round =>
      obtain ⟨k, hk, rfl, hbw, hf⟩ := hrel
      by_cases hlt : k < n
      · have c0 := (hbw.cell (p := ⟨b, off + k * 2, none⟩) hl).trans (H.out k hlt).1
        have c1 := (hbw.cell (p := ⟨b, off + k * 2 + 1, none⟩) hl).trans (H.out k hlt).2
        have hx := (hbw.cell (p := ⟨bx, 0, none⟩) hbx).trans HX.out
        have b2 : (k : Int) < (n : Int) := by omega
        by_cases he : (f k).1 = id
        · have hr : ((f k).1 == id) = true := by simpa using he
          have hfk := Lib.hid (hf.out.trans (findFrom_here hlt he))
          clear he hf
          go_wp2_with fail
          go_at_call 134; refine (findClo_is true hr hx).mono ?_; rintro e w1 ⟨rfl, hb⟩
          have hb1 := hbw.trans (hb.mono hbw.size)
          clear c0 c1 hx hbw hb
          go_wp2
          go_ret
          exact ⟨ret_i64 hfk.out.symm, hb1⟩
        · have hr : ((f k).1 == id) = false := by simpa using he
          have hfk := Lib.hid (hf.out.trans (findFrom_next hlt he))
          clear he hf
          go_wp2_with fail
          go_at_call 134; refine (findClo_is false hr hx).mono ?_; rintro e w1 ⟨rfl, hb⟩
          have hb1 := hbw.trans (hb.mono hbw.size)
          clear c0 c1 hx hbw hb
          go_wp2
          exact ⟨⟨k + 1, by omega, by go_num, hb1, hfk⟩, by simp [intOf]; omega⟩
      · have hfk := Lib.hid (hf.out.trans (findFrom_out hlt))
        have b2 : ¬ (k : Int) < (n : Int) := by omega
        have hd : decide (k < n) = false := by simp; omega
        clear hf
        go_wp2
        go_ret
        exact ⟨ret_i64 hfk.out.symm, hbw⟩

set_option maxRecDepth 100000 in
set_option maxHeartbeats 1000000 in
theorem iFindSlot_holds : AsksI 119 findM := by
  intro v n f id w hn h
  have k0 := (Below.refl w.heap.size w).alloc (Nat.le_refl _) (.cells #[.int .i64 id] 2)
  have HR := Lib.hid (h.below k0)
  have hx := cell_of_block (heap_alloc_new w (.cells #[.int .i64 id] 2)) 0
  clear h
  go_enter Try.func119, Try.ntmps119
  go_wp2_with fail
  go_at_call 133; refine (indexFunc_any hn HR.out hx).mono ?_; rintro e w1 ⟨rfl, hb⟩
  go_wp2
  go_ret
  exact ⟨rfl, k0.trans (hb.mono k0.size)⟩

end Go.Proofs.Ytnmaljieaflnmaa
