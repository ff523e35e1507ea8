/-
  The exact laws on processors, told what the program's own functions answer.
-/
import Derived.Test.YtnmaljieaflnmaaProcLaws
import Derived.Test.YtnmaljieaflnmaaToPlan
namespace Go.Proofs.Ytnmaljieaflnmaa
open Go.RowKit Go.Joins
set_option linter.unusedVariables false

/-- what the program's WakeOf and ProcOk are to answer -/
def AsksW (fn : FuncId) : Prop := ∀ (v : Value) (n : Nat) (f : Slots) (l e d : Int) (w : World), n ≤ 1048576 → RowAt w v n f → Calls Try.prog fn #[prV v l e d] w fun x w' => x = .returned (.int .i64 (wakeI f n e)) ∧ Below w.heap.size w w'
def AsksR (fn : FuncId) : Prop := ∀ (a b c : Int) (v : Value) (n : Nat) (f : Slots) (l e d : Int) (w : World), n ≤ 1048576 → RowAt w v n f → Calls Try.prog fn #[.agg #[.int .i64 a, .int .i64 b, .int .i64 c], prV v l e d] w fun x w' => x = .returned (.bool (procOkB a b c f n l e d)) ∧ Below w.heap.size w w'

set_option maxRecDepth 100000 in
set_option maxHeartbeats 1000000 in
theorem exWakeOf_big {v : Value} {n : Nat} {f : Slots} (l e d : Int) {w : World} (hm : n ≤ maxLen) (hn : ¬ n ≤ 1048576) (h : RowAt w v n f) :
    Calls Try.prog 4 #[prV v l e d] w fun x w' => x = .returned (.bool true) ∧ Below w.heap.size w w' := by
  have k0 := (Below.refl w.heap.size w).alloc (Nat.le_refl _) (.cells #[v, .int .i64 l, .int .i64 e, .int .i64 d] 38)
  obtain ⟨va, vc, hv⟩ := h.form
  have hform : ∃ a c, v = .slice a n c := h.form
  clear h
  subst hv
  go_enter Try.func4, Try.ntmps4
  go_wp2_with fail
  go_at_call 17; refine (szProc_any l e d hform 1048576 _ (by decide) (by decide) hm).mono ?_; rw [if_pos (by omega)]; rintro x w1 ⟨rfl, hb⟩
  go_wp2
  go_ret
  exact ⟨rfl, k0.trans (hb.mono k0.size)⟩

set_option maxRecDepth 100000 in
set_option maxHeartbeats 4000000 in
theorem exWakeOf_small (hI : AsksW 13) {v : Value} {n : Nat} {f : Slots} (l e d : Int) {w : World} (hn : n ≤ 1048576) (h : RowAt w v n f) :
    Calls Try.prog 4 #[prV v l e d] w fun x w' => x = .returned (.bool true) ∧ Below w.heap.size w w' := by
  have k0 := (Below.refl w.heap.size w).alloc (Nat.le_refl _) (.cells #[v, .int .i64 l, .int .i64 e, .int .i64 d] 38)
  have RV := Lib.hid (h.below k0)
  have hX := heap_alloc_new w (.cells #[v, .int .i64 l, .int .i64 e, .int .i64 d] 38)
  have lX := lt_of_block hX
  have HX := Lib.hid hX
  obtain ⟨va, vc, hv⟩ := h.form
  have hform : ∃ a c, v = .slice a n c := h.form
  have hm : n ≤ maxLen := by unfold maxLen; omega
  clear h hX
  subst hv
  go_enter Try.func4, Try.ntmps4
  go_wp2_with fail
  go_at_call 17; refine (szProc_any l e d hform 1048576 _ (by decide) (by decide) hm).mono ?_; rw [if_neg (by omega)]; rintro x w1 ⟨rfl, kk⟩
  have hz : decide ((1048576 : Int) - (n : Int) < 0) = false := by simp; omega
  have hz2 : (0 : Int) ≤ 1048576 - (n : Int) := by omega
  obtain ⟨z, hze⟩ : ∃ z : Int, z = 1048576 - (n : Int) := ⟨_, rfl⟩
  rw [← hze] at hz hz2 ⊢
  clear hze
  obtain ⟨x0, x1, x2, x3, _, _, _, _⟩ := four (b_block kk HX.out lX)
  go_wp2_with fail
  go_at_call 18; refine (toProc_any l e d hn (RV.out.below kk)).mono ?_; rintro x w2 ⟨u1, rfl, hU1, hb⟩
  replace kk := kk.trans (hb.mono kk.size); clear hb x0 x1 x2 x3
  go_wp2_with fail
  go_at_call 16; refine (spWakeOf_any _ _ _ hn hU1.row).mono ?_; rintro x w3 ⟨rfl, hb⟩
  replace kk := kk.trans (hb.mono kk.size); clear hb hU1
  obtain ⟨x0, x1, x2, x3, _, _, _, _⟩ := four (b_block kk HX.out lX)
  go_wp2_with fail
  go_at_call 18; refine (toProc_any l e d hn (RV.out.below kk)).mono ?_; rintro x w4 ⟨u2, rfl, hU2', hb⟩
  replace kk := kk.trans (hb.mono kk.size); clear hb x0 x1 x2 x3
  have hs4 := kk.size
  replace kk := kk.alloc kk.size (.cells #[u2, .int .i64 l, .int .i64 e, .int .i64 d] 28)
  have hU2 := hU2'.alloc (.cells #[u2, .int .i64 l, .int .i64 e, .int .i64 d] 28)
  have HY := Lib.hid (heap_alloc_new w4 (.cells #[u2, .int .i64 l, .int .i64 e, .int .i64 d] 28))
  have lY : w4.heap.size < (w4.alloc (.cells #[u2, .int .i64 l, .int .i64 e, .int .i64 d] 28)).heap.size := by simp
  obtain ⟨z0, z1, z2, z3, _, _, _, _⟩ := four HY.out
  obtain ⟨ua, uc, hu⟩ := hU2'.row.form
  have hne : w.heap.size ≠ w4.heap.size := by omega
  clear hU2'
  have ky := Below.refl (w4.alloc (.cells #[u2, .int .i64 l, .int .i64 e, .int .i64 d] 28)).heap.size (w4.alloc (.cells #[u2, .int .i64 l, .int .i64 e, .int .i64 d] 28))
  subst hu
  go_wp2_with fail
  go_at_call 13; refine (hI _ _ _ _ _ _ _ hn hU2.row).mono ?_; rintro x w5 ⟨rfl, hb⟩
  replace kk := kk.trans (hb.mono kk.size); replace ky := ky.trans (hb.mono ky.size); clear hb z0 z1 z2 z3
  obtain ⟨x0, x1, x2, x3, _, _, _, _⟩ := four (b_block kk HX.out lX)
  obtain ⟨z0, z1, z2, z3, _, _, _, _⟩ := four (b_block ky HY.out lY)
  go_wp2_with fail
  go_region_held3 (fun w' => w'.cell? ⟨w.heap.size, 0, none⟩ = some ((.slice va n vc)) ∧ w'.cell? ⟨w.heap.size, 1, none⟩ = some (.int .i64 l) ∧ w'.cell? ⟨w.heap.size, 2, none⟩ = some (.int .i64 e) ∧ w'.cell? ⟨w.heap.size, 3, none⟩ = some (.int .i64 d) ∧ w'.cell? ⟨w4.heap.size, 0, none⟩ = some (.slice ua n uc) ∧ w'.cell? ⟨w4.heap.size, 1, none⟩ = some (.int .i64 l) ∧ w'.cell? ⟨w4.heap.size, 2, none⟩ = some (.int .i64 e) ∧ w'.cell? ⟨w4.heap.size, 3, none⟩ = some (.int .i64 d))
    (first | exact ⟨x0, x1, x2, x3, z0, z1, z2, z3⟩ | exact ⟨(kk.cell (p := ⟨w.heap.size, 0, none⟩) lX).trans (cell_of_block HX.out 0), (kk.cell (p := ⟨w.heap.size, 1, none⟩) lX).trans (cell_of_block HX.out 1), (kk.cell (p := ⟨w.heap.size, 2, none⟩) lX).trans (cell_of_block HX.out 2), (kk.cell (p := ⟨w.heap.size, 3, none⟩) lX).trans (cell_of_block HX.out 3), (ky.cell (p := ⟨w4.heap.size, 0, none⟩) lY).trans (cell_of_block HY.out 0), (ky.cell (p := ⟨w4.heap.size, 1, none⟩) lY).trans (cell_of_block HY.out 1), (ky.cell (p := ⟨w4.heap.size, 2, none⟩) lY).trans (cell_of_block HY.out 2), (ky.cell (p := ⟨w4.heap.size, 3, none⟩) lY).trans (cell_of_block HY.out 3)⟩ | go_keep)
    (first
      | (go_at_call 18; refine (toProc_any l e d hn (RV.out.below kk).drew).mono ?_; rintro x w6 ⟨u3, rfl, hU4, hb⟩; have kp := kk.drew.trans (hb.mono kk.drew.size); have kq := ky.drew.trans (hb.mono ky.drew.size); replace kk := kp; replace ky := kq; clear hb)
      | (go_at_call 19; refine (eqProc_same l e d hn (hU2.row.below ky) hU4.row).mono ?_; rintro x w7 ⟨rfl, hb⟩; have kp3 := kk.trans (hb.mono kk.size); have kq3 := ky.trans (hb.mono ky.size); replace kk := kp3; replace ky := kq3; clear hb))
  all_goals
    clear z0 z1 z2 z3 x0 x1 x2 x3
    go_wp2
    go_ret
    exact ⟨rfl, k0.trans (kk.mono k0.size)⟩

end Go.Proofs.Ytnmaljieaflnmaa
