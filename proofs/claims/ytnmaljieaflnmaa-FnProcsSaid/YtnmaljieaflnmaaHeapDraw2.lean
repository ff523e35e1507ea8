/-
  The draws of the chapter on heaps, second part.
-/
import Derived.Test.YtnmaljieaflnmaaHeapDraw
namespace Go.Proofs.Ytnmaljieaflnmaa
open Go.RowKit Go.Joins
set_option linter.unusedVariables false

set_option maxHeartbeats 1000000 in
theorem l2DrawAny_any {B g len : Nat} {sl : Value} {w : World} (hC : CurAt w B g sl len) :
    Calls Try.prog 44 #[.pointer (some ⟨g, 0, none⟩)] w (DrawnH (fun _ n => n ≤ 31) B g sl len w) := by
  have hlt := hC.lt
  have hmk : ∀ w : World, (Instr.makeSlice 26 (.int .i64 31) (.int .i64 31)).run Try.prog w = .ok (.slice (some ⟨w.heap.size, 0, none⟩) 31 31) (w.alloc (.cells (madeCells #[.int .i64 0, .int .i64 0] (31 * 2)) 35)) := run_make_slots 31 (by decide)
  go_enter Try.func44, Try.ntmps44
  go_wp2_with fail
  go_at_call 86; refine (l2Draw_any hC).mono ?_; rintro e w1 ⟨v, n, f, rfl, hO, ⟨_, hn⟩, hC1, hg1⟩
  obtain ⟨va, vc, hv⟩ := hO.row.form
  subst hv
  have hn' : (n : Int) ≤ 30 := by omega
  go_wp2_with fail
  go_at_call 42; refine (l1Once_any 6 (by omega) (by omega) hC1).mono ?_; rintro e w2 ⟨q, rfl, hC2, hg2⟩
  have hO2 := hO.kept hg2 (fun g' e => by injection e; omega)
  have hg3 := g_trans hg1 hg2
  clear hO hg1 hg2 hC1 hC
  cases q
  · go_wp2_with fail
    go_at_call 42; refine (l1Once_any 20 (by omega) (by omega) hC2).mono ?_; rintro e w9 ⟨q9, rfl, hC9, hg9⟩
    have hO9 := hO2.kept hg9 (fun g' e => by injection e; omega)
    have hg10 := g_trans hg3 hg9
    clear hg9
    cases q9
    · go_wp2
      go_ret
      exact ⟨_, n, f, rfl, hO9, by omega, hC9, hg10⟩
    · have hO11 := (own_made w9 31 (by decide)).own
      have hC11 := hC9.alloc (.cells (madeCells #[.int .i64 0, .int .i64 0] (31 * 2)) 35)
      have hg11 := g_alloc hg10 (.cells (madeCells #[.int .i64 0, .int .i64 0] (31 * 2)) 35)
      have hO12 := hO11.mono hg10.size
      clear hO9 hC9 hg10 hO11
      go_wp2
      go_ret
      exact ⟨_, 31, _, rfl, hO12, Nat.le_refl _, hC11, hg11⟩
  · by_cases hp : 0 < n
    · have hp' : (0 : Int) < (n : Int) := by omega
      have hp1 : (1 : Int) ≤ (n : Int) := by omega
      rcases hO2 with ⟨h0, _⟩ | ⟨g', cap, hv, hO2⟩
      · omega
      injection hv with hv1 hv2 hv3
      subst hv1
      subst hv3
      have hg' := hO2.1
      have hne : g' ≠ g := by omega
      go_wp2_with fail
      go_at_call 43; refine (l1Below_any (n : Int) hp1 (by omega) hC2).mono ?_; rintro e w3 ⟨x, x0, x1, rfl, hC3, hg4⟩
      have hO3 := hO2.kept hg4 hne
      have hg5 := g_trans hg3 hg4
      obtain ⟨k, rfl⟩ : ∃ k : Nat, x = k := ⟨x.toNat, by omega⟩
      have hk : k < n := by omega
      clear hO2 hg3 hg4 hC2
      go_wp2_with fail
      go_at_call 45; refine (l1From_any (-1) 20 (by omega) (by omega) (by omega) hC3).mono ?_; rintro e w4 ⟨y, y0, y1, rfl, hC4, hg6⟩
      have hO4 := hO3.kept hg6 hne
      have hg7 := g_trans hg5 hg6
      obtain ⟨c0, c1⟩ := hO4.cells hk
      have f1 := hO4.free (k * 2 + 1)
      have b0 : (k : Int) < (n : Int) := by omega
      have hO5 := (hO4.putKey hk y).own
      have hC5 := hC4.set (b := g') (by have := hC4.base; omega) hne (k * 2 + 1) (.int .i64 y)
      have hg8 := g_new hg7 hg' (k * 2 + 1) (.int .i64 y)
      clear hO3 hg5 hC3 hO4 hg6 hg7 hC4
      go_wp2_with fail
      go_at_call 42; refine (l1Once_any 20 (by omega) (by omega) hC5).mono ?_; rintro e w9 ⟨q9, rfl, hC9, hg9⟩
      have hO9 := hO5.kept hg9 (fun g' e => by injection e; omega)
      have hg10 := g_trans hg8 hg9
      clear hg9
      cases q9
      · go_wp2
        go_ret
        exact ⟨_, n, _, rfl, hO9, by omega, hC9, hg10⟩
      · have hO11 := (own_made w9 31 (by decide)).own
        have hC11 := hC9.alloc (.cells (madeCells #[.int .i64 0, .int .i64 0] (31 * 2)) 35)
        have hg11 := g_alloc hg10 (.cells (madeCells #[.int .i64 0, .int .i64 0] (31 * 2)) 35)
        have hO12 := hO11.mono hg10.size
        clear hO9 hC9 hg10 hO11
        go_wp2
        go_ret
        exact ⟨_, 31, _, rfl, hO12, Nat.le_refl _, hC11, hg11⟩
    · have hp' : ¬ (0 : Int) < (n : Int) := by omega
      have hd : decide (0 < n) = false := by simp; omega
      go_wp2_with fail
      go_at_call 42; refine (l1Once_any 20 (by omega) (by omega) hC2).mono ?_; rintro e w9 ⟨q9, rfl, hC9, hg9⟩
      have hO9 := hO2.kept hg9 (fun g' e => by injection e; omega)
      have hg10 := g_trans hg3 hg9
      clear hg9
      cases q9
      · go_wp2
        go_ret
        exact ⟨_, n, f, rfl, hO9, by omega, hC9, hg10⟩
      · have hO11 := (own_made w9 31 (by decide)).own
        have hC11 := hC9.alloc (.cells (madeCells #[.int .i64 0, .int .i64 0] (31 * 2)) 35)
        have hg11 := g_alloc hg10 (.cells (madeCells #[.int .i64 0, .int .i64 0] (31 * 2)) 35)
        have hO12 := hO11.mono hg10.size
        clear hO9 hC9 hg10 hO11
        go_wp2
        go_ret
        exact ⟨_, 31, _, rfl, hO12, Nat.le_refl _, hC11, hg11⟩

end Go.Proofs.Ytnmaljieaflnmaa
