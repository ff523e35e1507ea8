/-
  The draws: odd numbers, and plans.
-/
import Derived.Test.YtnmaljieaflnmaaCur
import Derived.Test.YtnmaljieaflnmaaMin
namespace Go.Proofs.Ytnmaljieaflnmaa
open Go.RowKit Go.Joins
set_option linter.unusedVariables false

set_option maxHeartbeats 400000 in
theorem l1Odd_any {B g len : Nat} {sl : Value} {w : World} (hC : CurAt w B g sl len) :
    Calls Try.prog 88 #[.pointer (some ⟨g, 0, none⟩)] w (Drawn B g sl len (-9223372036854775808) 9223372036854775807 w) := by
  have hlt := hC.lt
  go_enter Try.func88, Try.ntmps88
  go_wp2_with fail
  go_at_call 43; refine (l1Below_any _ (by omega) (by omega) (hC.alloc _)).mono ?_; rintro e w1 ⟨x, hx0, hx1, rfl, hC1, hg1⟩
  have hb : w1.heap[w.heap.size]? = _ := (hg1.block w.heap.size (by simp) (by simp; omega)).trans (heap_alloc_new w _)
  have c := fun i => cell_of_block hb i
  clear hb
  have hx : x = 0 ∨ x = 1 ∨ x = 2 ∨ x = 3 ∨ x = 4 ∨ x = 5 ∨ x = 6 ∨ x = 7 ∨ x = 8 ∨ x = 9 := by omega
  have hgg := g_trans (World.grownBy_alloc w _ (some g)) hg1
  clear hg1 hx0 hx1
  rcases hx with rfl | rfl | rfl | rfl | rfl | rfl | rfl | rfl | rfl | rfl
  · have k : w1.cell? ⟨w.heap.size, 0, none⟩ = some (.int .i64 (-1)) := c 0
    clear c
    go_wp2
    go_ret
    exact ⟨_, by decide, by decide, rfl, hC1, hgg⟩
  · have k : w1.cell? ⟨w.heap.size, 1, none⟩ = some (.int .i64 0) := c 1
    clear c
    go_wp2
    go_ret
    exact ⟨_, by decide, by decide, rfl, hC1, hgg⟩
  · have k : w1.cell? ⟨w.heap.size, 2, none⟩ = some (.int .i64 1) := c 2
    clear c
    go_wp2
    go_ret
    exact ⟨_, by decide, by decide, rfl, hC1, hgg⟩
  · have k : w1.cell? ⟨w.heap.size, 3, none⟩ = some (.int .i64 2147483648) := c 3
    clear c
    go_wp2
    go_ret
    exact ⟨_, by decide, by decide, rfl, hC1, hgg⟩
  · have k : w1.cell? ⟨w.heap.size, 4, none⟩ = some (.int .i64 (-2147483648)) := c 4
    clear c
    go_wp2
    go_ret
    exact ⟨_, by decide, by decide, rfl, hC1, hgg⟩
  · have k : w1.cell? ⟨w.heap.size, 5, none⟩ = some (.int .i64 1099511627776) := c 5
    clear c
    go_wp2
    go_ret
    exact ⟨_, by decide, by decide, rfl, hC1, hgg⟩
  · have k : w1.cell? ⟨w.heap.size, 6, none⟩ = some (.int .i64 4611686018427387904) := c 6
    clear c
    go_wp2
    go_ret
    exact ⟨_, by decide, by decide, rfl, hC1, hgg⟩
  · have k : w1.cell? ⟨w.heap.size, 7, none⟩ = some (.int .i64 (-4611686018427387904)) := c 7
    clear c
    go_wp2
    go_ret
    exact ⟨_, by decide, by decide, rfl, hC1, hgg⟩
  · have k : w1.cell? ⟨w.heap.size, 8, none⟩ = some (.int .i64 9223372036854775807) := c 8
    clear c
    go_wp2
    go_ret
    exact ⟨_, by decide, by decide, rfl, hC1, hgg⟩
  · have k : w1.cell? ⟨w.heap.size, 9, none⟩ = some (.int .i64 (-9223372036854775808)) := c 9
    clear c
    go_wp2
    go_ret
    exact ⟨_, by decide, by decide, rfl, hC1, hgg⟩

set_option maxHeartbeats 400000 in
theorem l1Num_any {B g len : Nat} {sl : Value} {w : World} (most : Int) (hm : 1 ≤ most) (hm2 : most ≤ 1099511627776) (hC : CurAt w B g sl len) :
    Calls Try.prog 46 #[.pointer (some ⟨g, 0, none⟩), .int .i64 most] w (Drawn B g sl len (-9223372036854775808) 9223372036854775807 w) := by
  have hlt := hC.lt
  go_enter Try.func46, Try.ntmps46
  go_wp2_with fail
  go_at_call 42; refine (l1Once_any _ (by omega) (by omega) hC).mono ?_; rintro e w1 ⟨q, rfl, hC1, hg1⟩
  cases q
  · go_wp2_with fail
    go_at_call 42; refine (l1Once_any _ (by omega) (by omega) hC1).mono ?_; rintro e w2 ⟨q, rfl, hC2, hg2⟩
    have hgg := g_trans hg1 hg2
    clear hg1 hg2
    cases q
    · go_wp2_with fail
      go_at_call 43; refine (l1Below_any _ (by omega) (by omega) hC2).mono ?_; rintro e w3 ⟨x, hx0, hx1, rfl, hC3, hg3⟩
      go_wp2
      go_ret
      exact ⟨_, by omega, by omega, rfl, hC3, g_trans hgg hg3⟩
    · have hmin : 1 ≤ minI most 4 ∧ minI most 4 ≤ 4 := by unfold minI; split <;> omega
      obtain ⟨m0, m1⟩ := hmin
      go_wp2_with fail
      go_at_call 58; refine (l1Min_any _ _ _).mono ?_; rintro e w' ⟨rfl, rfl⟩
      go_wp2_with fail
      go_at_call 43; refine (l1Below_any _ (by omega) (by omega) hC2).mono ?_; rintro e w3 ⟨x, hx0, hx1, rfl, hC3, hg3⟩
      go_wp2
      go_ret
      exact ⟨_, by omega, by omega, rfl, hC3, g_trans hgg hg3⟩
  · go_wp2_with fail
    go_at_call 88; refine (l1Odd_any hC1).mono ?_; rintro e w2 ⟨y, hy0, hy1, rfl, hC2, hg2⟩
    have hgg := g_trans hg1 hg2
    clear hg1 hg2
    have hlt2 := hC2.lt
    go_wp2_with fail
    go_at_call 43; refine (l1Below_any _ (by omega) (by omega) (hC2.alloc _)).mono ?_; rintro e w3 ⟨x, hx0, hx1, rfl, hC3, hg3⟩
    have hb : w3.heap[w2.heap.size]? = _ := (hg3.block w2.heap.size (by simp) (by simp; omega)).trans (heap_alloc_new w2 _)
    have c := fun i => cell_of_block hb i
    clear hb
    have hx : x = 0 ∨ x = 1 ∨ x = 2 ∨ x = 3 := by omega
    have hg4 := g_trans hgg (g_trans (World.grownBy_alloc w2 _ (some g)) hg3)
    clear hg3 hgg hx0 hx1
    rcases hx with rfl | rfl | rfl | rfl
    · have k : w3.cell? ⟨w2.heap.size, 0, none⟩ = some (.int .i64 (-1)) := c 0
      clear c
      go_wp2
      go_ret
      exact ⟨_, by decide, by decide, rfl, hC3, hg4⟩
    · have k : w3.cell? ⟨w2.heap.size, 1, none⟩ = some (.int .i64 most) := c 1
      clear c
      go_wp2
      go_ret
      exact ⟨_, by omega, by omega, rfl, hC3, hg4⟩
    · have k : w3.cell? ⟨w2.heap.size, 2, none⟩ = some (.int .i64 (most + 1)) := c 2
      clear c
      go_wp2
      go_ret
      exact ⟨_, by omega, by omega, rfl, hC3, hg4⟩
    · have k : w3.cell? ⟨w2.heap.size, 3, none⟩ = some (.int .i64 y) := c 3
      clear c
      go_wp2
      go_ret
      exact ⟨_, hy0, hy1, rfl, hC3, hg4⟩

/-- a call that draws a plan -/
def DrawnP (R : Int → Int → Int → Prop) (B g : Nat) (sl : Value) (len : Nat) (w : World) (e : Ending) (w' : World) : Prop :=
  ∃ a b c : Int, R a b c ∧ e = .returned (.agg #[.int .i64 a, .int .i64 b, .int .i64 c]) ∧ CurAt w' B g sl len ∧ w.grownBy w' (some g)
set_option maxHeartbeats 400000 in
theorem l1DrawPlan_any {B g len : Nat} {sl : Value} {w : World} (hC : CurAt w B g sl len) :
    Calls Try.prog 40 #[.pointer (some ⟨g, 0, none⟩)] w (DrawnP (fun a b c => (1 ≤ a ∧ a ≤ 3) ∧ (1 ≤ b ∧ b ≤ 4) ∧ 2 ≤ c ∧ c ≤ 9) B g sl len w) := by
  have hlt := hC.lt
  go_enter Try.func40, Try.ntmps40
  go_wp2_with fail
  go_at_call 43; refine (l1Below_any _ (by omega) (by omega) (hC.alloc _)).mono ?_; rintro e w1 ⟨x, hx0, hx1, rfl, hC1, hg1⟩
  go_wp2_with fail
  go_at_call 43; refine (l1Below_any _ (by omega) (by omega) hC1).mono ?_; rintro e w2 ⟨y, hy0, hy1, rfl, hC2, hg2⟩
  go_wp2_with fail
  go_at_call 43; refine (l1Below_any _ (by omega) (by omega) hC2).mono ?_; rintro e w3 ⟨z, hz0, hz1, rfl, hC3, hg3⟩
  have hgg := g_trans (g_trans hg1 hg2) hg3
  clear hg1 hg2 hg3
  have hb : w3.heap[w.heap.size]? = _ := (hgg.block w.heap.size (by simp) (by simp; omega)).trans (heap_alloc_new w _)
  have c0 : w3.cell? ⟨w.heap.size, 0, none⟩ = some (.int .i64 0) := cell_of_block hb 0
  have c1 : w3.cell? ⟨w.heap.size, 1, none⟩ = some (.int .i64 0) := cell_of_block hb 1
  have c2 : w3.cell? ⟨w.heap.size, 2, none⟩ = some (.int .i64 0) := cell_of_block hb 2
  have f0 := unfrozen_of_block hb 0
  have f1 := unfrozen_of_block hb 1
  have f2 := unfrozen_of_block hb 2
  have hg4 := g_trans (World.grownBy_alloc w _ (some g)) hgg
  clear hb hgg
  have hB := hC.base
  go_wp2
  exact bodyPost_ret (v := .agg #[.int .i64 (1 + x), .int .i64 (1 + y), .int .i64 (2 + z)]) (by simp [results, Try.results40, go_sem, c0, c1, c2]) rfl
    ⟨_, _, _, ⟨by omega, by omega, by omega⟩, rfl, ((hC3.set (by omega) (by omega) _ _).set (by omega) (by omega) _ _).set (by omega) (by omega) _ _, g_new (g_new (g_new hg4 (Nat.le_refl _) _ _) (Nat.le_refl _) _ _) (Nat.le_refl _) _ _⟩

set_option maxHeartbeats 400000 in
theorem l1DrawAny_any {B g len : Nat} {sl : Value} {w : World} (hC : CurAt w B g sl len) :
    Calls Try.prog 47 #[.pointer (some ⟨g, 0, none⟩)] w (DrawnP (fun _ _ _ => True) B g sl len w) := by
  have hlt := hC.lt
  have hB := hC.base
  go_enter Try.func47, Try.ntmps47
  go_wp2_with fail
  go_at_call 40; refine (l1DrawPlan_any (hC.alloc _)).mono ?_; rintro e w1 ⟨a, b, c, _, rfl, hC1, hg1⟩
  have hR := g_block hg1 (heap_alloc_new w _) (by omega)
  have hg2 := g_trans (World.grownBy_alloc w _ (some g)) hg1
  clear hg1
  have hs : w.heap.size < w1.heap.size := lt_of_block hR
  have hne : w.heap.size ≠ w1.heap.size := by omega
  go_wp2_with fail
  go_at_call 42; refine (l1Once_any _ (by omega) (by omega) (hC1.alloc _)).mono ?_; rintro e w2 ⟨q, rfl, hC2, hg3⟩
  have hlt1 := hC1.lt
  replace hR := g_block hg3 (alloc_block _ hR) (by omega)
  have hV := g_block hg3 (heap_alloc_new w1 _) (by omega)
  have hg4 := g_trans hg2 (g_trans (World.grownBy_alloc w1 _ (some g)) hg3)
  clear hg3 hg2
  cases q
  · obtain ⟨r0, r1, r2, p0, p1, p2⟩ := three hR
    obtain ⟨v0, v1, v2, q0, q1, q2⟩ := three hV
    clear hR hV
    go_wp2
    exact bodyPost_ret (v := .agg #[.int .i64 a, .int .i64 b, .int .i64 c]) (by simp [results, Try.results47, go_sem, r0, r1, r2]) rfl ⟨_, _, _, trivial, rfl, (((hC2.set (by omega) (by omega) _ _).set (by omega) (by omega) _ _).set (by omega) (by omega) _ _), (g_new (g_new (g_new hg4 (by omega) _ _) (by omega) _ _) (by omega) _ _)⟩
  · go_wp2_with fail
    go_at_call 43; refine (l1Below_any _ (by omega) (by omega) hC2).mono ?_; rintro e w3 ⟨x, hx0, hx1, rfl, hC3, hg5⟩
    replace hR := g_block hg5 hR (by omega)
    replace hV := g_block hg5 hV (by omega)
    replace hg4 := g_trans hg4 hg5
    clear hg5
    have hx : x = 0 ∨ x = 1 ∨ x = 2 := by omega
    clear hx0 hx1
    rcases hx with rfl | rfl | rfl
    · go_wp2_with fail
      go_at_call 46; refine (l1Num_any _ (by omega) (by omega) hC3).mono ?_; rintro e w4 ⟨y, _, _, rfl, hC4, hg5⟩
      replace hR := g_block hg5 hR (by omega)
      replace hV := g_block hg5 hV (by omega)
      replace hg4 := g_trans hg4 hg5
      clear hg5
      obtain ⟨r0, r1, r2, p0, p1, p2⟩ := three hR
      obtain ⟨v0, v1, v2, q0, q1, q2⟩ := three hV
      clear hR hV
      go_wp2
      exact bodyPost_ret (v := .agg #[.int .i64 y, .int .i64 b, .int .i64 c]) (by simp [results, Try.results47, go_sem, r0, r1, r2]) rfl ⟨_, _, _, trivial, rfl, ((((hC4.set (by omega) (by omega) _ _).set (by omega) (by omega) _ _).set (by omega) (by omega) _ _).set (by omega) (by omega) _ _), (g_new (g_new (g_new (g_new hg4 (by omega) _ _) (by omega) _ _) (by omega) _ _) (by omega) _ _)⟩
    · go_wp2_with fail
      go_at_call 46; refine (l1Num_any _ (by omega) (by omega) hC3).mono ?_; rintro e w4 ⟨y, _, _, rfl, hC4, hg5⟩
      replace hR := g_block hg5 hR (by omega)
      replace hV := g_block hg5 hV (by omega)
      replace hg4 := g_trans hg4 hg5
      clear hg5
      obtain ⟨r0, r1, r2, p0, p1, p2⟩ := three hR
      obtain ⟨v0, v1, v2, q0, q1, q2⟩ := three hV
      clear hR hV
      go_wp2
      exact bodyPost_ret (v := .agg #[.int .i64 a, .int .i64 y, .int .i64 c]) (by simp [results, Try.results47, go_sem, r0, r1, r2]) rfl ⟨_, _, _, trivial, rfl, ((((hC4.set (by omega) (by omega) _ _).set (by omega) (by omega) _ _).set (by omega) (by omega) _ _).set (by omega) (by omega) _ _), (g_new (g_new (g_new (g_new hg4 (by omega) _ _) (by omega) _ _) (by omega) _ _) (by omega) _ _)⟩
    · go_wp2_with fail
      go_at_call 46; refine (l1Num_any _ (by omega) (by omega) hC3).mono ?_; rintro e w4 ⟨y, _, _, rfl, hC4, hg5⟩
      replace hR := g_block hg5 hR (by omega)
      replace hV := g_block hg5 hV (by omega)
      replace hg4 := g_trans hg4 hg5
      clear hg5
      obtain ⟨r0, r1, r2, p0, p1, p2⟩ := three hR
      obtain ⟨v0, v1, v2, q0, q1, q2⟩ := three hV
      clear hR hV
      go_wp2
      exact bodyPost_ret (v := .agg #[.int .i64 a, .int .i64 b, .int .i64 y]) (by simp [results, Try.results47, go_sem, r0, r1, r2]) rfl ⟨_, _, _, trivial, rfl, ((((hC4.set (by omega) (by omega) _ _).set (by omega) (by omega) _ _).set (by omega) (by omega) _ _).set (by omega) (by omega) _ _), (g_new (g_new (g_new (g_new hg4 (by omega) _ _) (by omega) _ _) (by omega) _ _) (by omega) _ _)⟩

end Go.Proofs.Ytnmaljieaflnmaa
