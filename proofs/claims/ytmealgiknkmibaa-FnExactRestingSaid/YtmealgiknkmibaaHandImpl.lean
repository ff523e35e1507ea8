/-
  Hands, in the program.
-/
import Derived.Test.YtmealgiknkmibaaCallImpl
namespace Go.Proofs.Ytmealgiknkmibaa
open Go.RowKit Go.Joins
set_option linter.unusedVariables false

set_option maxRecDepth 100000 in
set_option maxHeartbeats 400000 in
theorem imNewHand_any (w : World) : Calls Try.prog 11 #[] w fun e w' => e = .returned (hdV newHd) ∧ Below w.heap.size w w' := by
  go_enter Try.func11, Try.ntmps11
  go_wp2
  exact bodyPost_ret (v := hdV newHd) (by simp [results, Try.results11, go_sem, newHd, ca0]) rfl ⟨rfl, by first | exact Below.refl _ _ | exact (Below.refl _ _).alloc (Nat.le_refl _) _ | exact ((Below.refl _ _).alloc (Nat.le_refl _) _).alloc (by simp) _⟩

set_option maxRecDepth 100000 in
set_option maxHeartbeats 1000000 in
theorem imResting_any (r o : Int) (w : World) : Calls Try.prog 14 #[.int .i64 r, .int .i64 o] w fun e w' => e = .returned (hdV (restHd r o)) ∧ Below w.heap.size w w' := by
  have k0 := (Below.refl w.heap.size w).alloc (Nat.le_refl _) (.cells #[.int .i64 0, .int .i64 0, .int .i64 0, .int .i64 0, .int .i64 0, .int .i64 0, .int .i64 0, .bool false, .int .i64 0, .int .i64 0, .int .i64 0, .int .i64 0] 33)
  have kk := Below.refl (w.alloc (.cells #[.int .i64 0, .int .i64 0, .int .i64 0, .int .i64 0, .int .i64 0, .int .i64 0, .int .i64 0, .bool false, .int .i64 0, .int .i64 0, .int .i64 0, .int .i64 0] 33)).heap.size (w.alloc (.cells #[.int .i64 0, .int .i64 0, .int .i64 0, .int .i64 0, .int .i64 0, .int .i64 0, .int .i64 0, .bool false, .int .i64 0, .int .i64 0, .int .i64 0, .int .i64 0] 33))
  have p0 := heap_alloc_new w (.cells #[.int .i64 0, .int .i64 0, .int .i64 0, .int .i64 0, .int .i64 0, .int .i64 0, .int .i64 0, .bool false, .int .i64 0, .int .i64 0, .int .i64 0, .int .i64 0] 33)
  go_enter Try.func14, Try.ntmps14
  go_wp2_with fail
  go_at_call 11; refine (imNewHand_any _).mono ?_; rintro e w1 ⟨rfl, hb⟩; replace kk := kk.trans (hb.mono kk.size); clear hb
  have hz := kk.size
  simp at hz
  replace p0 := b_block kk p0 (by simp)
  generalize hB : w.heap.size = B at p0 hz ⊢
  have kw := k0.trans (kk.mono k0.size)
  clear kk
  have c0 : ∀ X : Obj, (w1.alloc X).cell? ⟨B, 0, none⟩ = some (.int .i64 0) := fun X => cell_of_block (alloc_block X p0) 0
  have f0 : ∀ X : Obj, (w1.alloc X).frozen? ⟨B, 0, none⟩ = false := fun X => unfrozen_of_block (alloc_block X p0) 0
  have c1 : ∀ X : Obj, (w1.alloc X).cell? ⟨B, 1, none⟩ = some (.int .i64 0) := fun X => cell_of_block (alloc_block X p0) 1
  have f1 : ∀ X : Obj, (w1.alloc X).frozen? ⟨B, 1, none⟩ = false := fun X => unfrozen_of_block (alloc_block X p0) 1
  have c2 : ∀ X : Obj, (w1.alloc X).cell? ⟨B, 2, none⟩ = some (.int .i64 0) := fun X => cell_of_block (alloc_block X p0) 2
  have f2 : ∀ X : Obj, (w1.alloc X).frozen? ⟨B, 2, none⟩ = false := fun X => unfrozen_of_block (alloc_block X p0) 2
  have c3 : ∀ X : Obj, (w1.alloc X).cell? ⟨B, 3, none⟩ = some (.int .i64 0) := fun X => cell_of_block (alloc_block X p0) 3
  have f3 : ∀ X : Obj, (w1.alloc X).frozen? ⟨B, 3, none⟩ = false := fun X => unfrozen_of_block (alloc_block X p0) 3
  have c4 : ∀ X : Obj, (w1.alloc X).cell? ⟨B, 4, none⟩ = some (.int .i64 0) := fun X => cell_of_block (alloc_block X p0) 4
  have f4 : ∀ X : Obj, (w1.alloc X).frozen? ⟨B, 4, none⟩ = false := fun X => unfrozen_of_block (alloc_block X p0) 4
  have c5 : ∀ X : Obj, (w1.alloc X).cell? ⟨B, 5, none⟩ = some (.int .i64 0) := fun X => cell_of_block (alloc_block X p0) 5
  have f5 : ∀ X : Obj, (w1.alloc X).frozen? ⟨B, 5, none⟩ = false := fun X => unfrozen_of_block (alloc_block X p0) 5
  have c6 : ∀ X : Obj, (w1.alloc X).cell? ⟨B, 6, none⟩ = some (.int .i64 0) := fun X => cell_of_block (alloc_block X p0) 6
  have f6 : ∀ X : Obj, (w1.alloc X).frozen? ⟨B, 6, none⟩ = false := fun X => unfrozen_of_block (alloc_block X p0) 6
  have c7 : ∀ X : Obj, (w1.alloc X).cell? ⟨B, 7, none⟩ = some (.bool false) := fun X => cell_of_block (alloc_block X p0) 7
  have f7 : ∀ X : Obj, (w1.alloc X).frozen? ⟨B, 7, none⟩ = false := fun X => unfrozen_of_block (alloc_block X p0) 7
  have c8 : ∀ X : Obj, (w1.alloc X).cell? ⟨B, 8, none⟩ = some (.int .i64 0) := fun X => cell_of_block (alloc_block X p0) 8
  have f8 : ∀ X : Obj, (w1.alloc X).frozen? ⟨B, 8, none⟩ = false := fun X => unfrozen_of_block (alloc_block X p0) 8
  have c9 : ∀ X : Obj, (w1.alloc X).cell? ⟨B, 9, none⟩ = some (.int .i64 0) := fun X => cell_of_block (alloc_block X p0) 9
  have f9 : ∀ X : Obj, (w1.alloc X).frozen? ⟨B, 9, none⟩ = false := fun X => unfrozen_of_block (alloc_block X p0) 9
  have c10 : ∀ X : Obj, (w1.alloc X).cell? ⟨B, 10, none⟩ = some (.int .i64 0) := fun X => cell_of_block (alloc_block X p0) 10
  have f10 : ∀ X : Obj, (w1.alloc X).frozen? ⟨B, 10, none⟩ = false := fun X => unfrozen_of_block (alloc_block X p0) 10
  have c11 : ∀ X : Obj, (w1.alloc X).cell? ⟨B, 11, none⟩ = some (.int .i64 0) := fun X => cell_of_block (alloc_block X p0) 11
  have f11 : ∀ X : Obj, (w1.alloc X).frozen? ⟨B, 11, none⟩ = false := fun X => unfrozen_of_block (alloc_block X p0) 11
  go_wp2
  obtain ⟨X, hX⟩ : ∃ X : Obj, X = .cells (hdCells ⟨newHd.pos, newHd.call, newHd.tim, newHd.whe, newHd.had, newHd.cnt, newHd.beg, r, o⟩) 33 := ⟨_, rfl⟩
  have r0 := set_hand (h := ⟨newHd.pos, newHd.call, newHd.tim, newHd.whe, newHd.had, newHd.cnt, newHd.beg, r, o⟩) (alloc_block X p0)
  have hb := b_set_hand (n := w.heap.size) (h := ⟨newHd.pos, newHd.call, newHd.tim, newHd.whe, newHd.had, newHd.cnt, newHd.beg, r, o⟩) ((kw.alloc kw.size X)) (Nat.le_of_eq hB)
  rw [hX] at r0 hb
  have hq := r0
  clear r0
  have r0 := cell_of_block hq 0
  have r1 := cell_of_block hq 1
  have r2 := cell_of_block hq 2
  have r3 := cell_of_block hq 3
  have r4 := cell_of_block hq 4
  have r5 := cell_of_block hq 5
  have r6 := cell_of_block hq 6
  have r7 := cell_of_block hq 7
  have r8 := cell_of_block hq 8
  have r9 := cell_of_block hq 9
  have r10 := cell_of_block hq 10
  have r11 := cell_of_block hq 11
  exact bodyPost_ret (v := hdV ⟨newHd.pos, newHd.call, newHd.tim, newHd.whe, newHd.had, newHd.cnt, newHd.beg, r, o⟩) (by simp [results, Try.results14, go_sem, r0, r1, r2, r3, r4, r5, r6, r7, r8, r9, r10, r11]) rfl ⟨rfl, hb⟩

def beganB (h : Hd) : Bool := h.pos == 0 && noneB h.call
def timB (a b c : Int) (h : Hd) : Bool := h.tim == -1 || mayB a b c h.tim
def hcallB (a b c : Int) (h : Hd) : Bool := beganB h || (imNamedB a b c h.call && imRestB h.call)

set_option maxRecDepth 100000 in
set_option maxHeartbeats 1000000 in
theorem notBegun_twelve (po k x y z ti wh : Int) (ha : Bool) (cn be re ou : Int) (w : World) : Calls Try.prog 31 #[.agg #[.int .i64 po, .int .i64 k, .int .i64 x, .int .i64 y, .int .i64 z, .int .i64 ti, .int .i64 wh, .bool ha, .int .i64 cn, .int .i64 be, .int .i64 re, .int .i64 ou]] w fun e w' => e = .returned (.bool (beganB ⟨po, ⟨k, x, y, z⟩, ti, wh, ha, cn, be, re, ou⟩)) ∧ Below w.heap.size w w' := by
  have k0 := ((Below.refl w.heap.size w).alloc (Nat.le_refl _) (.cells #[.int .i64 po, .int .i64 k, .int .i64 x, .int .i64 y, .int .i64 z, .int .i64 ti, .int .i64 wh, .bool ha, .int .i64 cn, .int .i64 be, .int .i64 re, .int .i64 ou] 33))
  have kk := Below.refl (w.alloc (.cells #[.int .i64 po, .int .i64 k, .int .i64 x, .int .i64 y, .int .i64 z, .int .i64 ti, .int .i64 wh, .bool ha, .int .i64 cn, .int .i64 be, .int .i64 re, .int .i64 ou] 33)).heap.size (w.alloc (.cells #[.int .i64 po, .int .i64 k, .int .i64 x, .int .i64 y, .int .i64 z, .int .i64 ti, .int .i64 wh, .bool ha, .int .i64 cn, .int .i64 be, .int .i64 re, .int .i64 ou] 33))
  by_cases h0 : po = 0
  case neg =>
    have h0b : (po == 0) = false := by simpa using h0
    rw [show beganB ⟨po, ⟨k, x, y, z⟩, ti, wh, ha, cn, be, re, ou⟩ = false by simp [beganB, noneB, h0]]
    go_enter Try.func31, Try.ntmps31
    go_wp2
    all_goals
      go_ret
      exact ⟨ret_bool' (by simp), k0.trans (kk.mono k0.size)⟩
  subst h0
  by_cases h1 : k = 0
  case neg =>
    rw [show beganB ⟨0, ⟨k, x, y, z⟩, ti, wh, ha, cn, be, re, ou⟩ = false by simp [beganB, noneB, h1]]
    go_enter Try.func31, Try.ntmps31
    go_wp2
    all_goals
      go_ret
      exact ⟨ret_bool' (by simp), k0.trans (kk.mono k0.size)⟩
  subst h1
  by_cases h2 : x = 0
  case neg =>
    rw [show beganB ⟨0, ⟨0, x, y, z⟩, ti, wh, ha, cn, be, re, ou⟩ = false by simp [beganB, noneB, h2]]
    go_enter Try.func31, Try.ntmps31
    go_wp2
    all_goals
      go_ret
      exact ⟨ret_bool' (by simp), k0.trans (kk.mono k0.size)⟩
  subst h2
  by_cases h3 : y = 0
  case neg =>
    rw [show beganB ⟨0, ⟨0, 0, y, z⟩, ti, wh, ha, cn, be, re, ou⟩ = false by simp [beganB, noneB, h3]]
    go_enter Try.func31, Try.ntmps31
    go_wp2
    all_goals
      go_ret
      exact ⟨ret_bool' (by simp), k0.trans (kk.mono k0.size)⟩
  subst h3
  by_cases h4 : z = 0
  case neg =>
    rw [show beganB ⟨0, ⟨0, 0, 0, z⟩, ti, wh, ha, cn, be, re, ou⟩ = false by simp [beganB, noneB, h4]]
    go_enter Try.func31, Try.ntmps31
    go_wp2
    all_goals
      go_ret
      exact ⟨ret_bool' (by simp), k0.trans (kk.mono k0.size)⟩
  subst h4
  rw [show beganB ⟨0, ⟨0, 0, 0, 0⟩, ti, wh, ha, cn, be, re, ou⟩ = true by simp [beganB, noneB]]
  go_enter Try.func31, Try.ntmps31
  go_wp2
  all_goals
    go_ret
    exact ⟨ret_bool' (by simp), k0.trans (kk.mono k0.size)⟩

set_option maxRecDepth 100000 in
set_option maxHeartbeats 1000000 in
theorem timerRightH_twelve (a b c : Int) (po k x y z ti wh : Int) (ha : Bool) (cn be re ou : Int) (w : World) : Calls Try.prog 24 #[.agg #[.int .i64 po, .int .i64 k, .int .i64 x, .int .i64 y, .int .i64 z, .int .i64 ti, .int .i64 wh, .bool ha, .int .i64 cn, .int .i64 be, .int .i64 re, .int .i64 ou], .agg #[.int .i64 a, .int .i64 b, .int .i64 c]] w fun e w' => e = .returned (.bool (timB a b c ⟨po, ⟨k, x, y, z⟩, ti, wh, ha, cn, be, re, ou⟩)) ∧ Below w.heap.size w w' := by
  have k0 := (((Below.refl w.heap.size w).alloc (Nat.le_refl _) (.cells #[.int .i64 po, .int .i64 k, .int .i64 x, .int .i64 y, .int .i64 z, .int .i64 ti, .int .i64 wh, .bool ha, .int .i64 cn, .int .i64 be, .int .i64 re, .int .i64 ou] 33)).alloc (by simp) (.cells #[.int .i64 a, .int .i64 b, .int .i64 c] 29))
  have kk := Below.refl ((w.alloc (.cells #[.int .i64 po, .int .i64 k, .int .i64 x, .int .i64 y, .int .i64 z, .int .i64 ti, .int .i64 wh, .bool ha, .int .i64 cn, .int .i64 be, .int .i64 re, .int .i64 ou] 33)).alloc (.cells #[.int .i64 a, .int .i64 b, .int .i64 c] 29)).heap.size ((w.alloc (.cells #[.int .i64 po, .int .i64 k, .int .i64 x, .int .i64 y, .int .i64 z, .int .i64 ti, .int .i64 wh, .bool ha, .int .i64 cn, .int .i64 be, .int .i64 re, .int .i64 ou] 33)).alloc (.cells #[.int .i64 a, .int .i64 b, .int .i64 c] 29))
  by_cases h1 : ti = -1
  case pos =>
    subst h1
    rw [show timB a b c ⟨po, ⟨k, x, y, z⟩, -1, wh, ha, cn, be, re, ou⟩ = true by simp [timB]]
    go_enter Try.func24, Try.ntmps24
    go_wp2_with (first
      | (go_at_call 30; refine (mayHave_any _ _ _ _ _).mono ?_; rintro e w1 ⟨rfl, hb⟩; replace kk := kk.trans (hb.mono kk.size); clear hb; (try clear hc hf); obtain ⟨hc, hf⟩ := bcell kk))
    go_ret
    exact ⟨ret_bool' (by simp), k0.trans (kk.mono k0.size)⟩
  have h1b : (ti == -1) = false := by simpa using h1
  go_enter Try.func24, Try.ntmps24
  go_wp2_with (first
    | (go_at_call 30; refine (mayHave_any _ _ _ _ _).mono ?_; rintro e w1 ⟨rfl, hb⟩; replace kk := kk.trans (hb.mono kk.size); clear hb; (try clear hc hf); obtain ⟨hc, hf⟩ := bcell kk))
  go_ret
  exact ⟨ret_bool' (by simp [timB, h1]), k0.trans (kk.mono k0.size)⟩

set_option maxRecDepth 100000 in
set_option maxHeartbeats 1000000 in
theorem callRightH_twelve (a b c : Int) (po k x y z ti wh : Int) (ha : Bool) (cn be re ou : Int) (w : World) : Calls Try.prog 25 #[.agg #[.int .i64 po, .int .i64 k, .int .i64 x, .int .i64 y, .int .i64 z, .int .i64 ti, .int .i64 wh, .bool ha, .int .i64 cn, .int .i64 be, .int .i64 re, .int .i64 ou], .agg #[.int .i64 a, .int .i64 b, .int .i64 c]] w fun e w' => e = .returned (.bool (hcallB a b c ⟨po, ⟨k, x, y, z⟩, ti, wh, ha, cn, be, re, ou⟩)) ∧ Below w.heap.size w w' := by
  have k0 := (((Below.refl w.heap.size w).alloc (Nat.le_refl _) (.cells #[.int .i64 po, .int .i64 k, .int .i64 x, .int .i64 y, .int .i64 z, .int .i64 ti, .int .i64 wh, .bool ha, .int .i64 cn, .int .i64 be, .int .i64 re, .int .i64 ou] 33)).alloc (by simp) (.cells #[.int .i64 a, .int .i64 b, .int .i64 c] 29))
  have kk := Below.refl ((w.alloc (.cells #[.int .i64 po, .int .i64 k, .int .i64 x, .int .i64 y, .int .i64 z, .int .i64 ti, .int .i64 wh, .bool ha, .int .i64 cn, .int .i64 be, .int .i64 re, .int .i64 ou] 33)).alloc (.cells #[.int .i64 a, .int .i64 b, .int .i64 c] 29)).heap.size ((w.alloc (.cells #[.int .i64 po, .int .i64 k, .int .i64 x, .int .i64 y, .int .i64 z, .int .i64 ti, .int .i64 wh, .bool ha, .int .i64 cn, .int .i64 be, .int .i64 re, .int .i64 ou] 33)).alloc (.cells #[.int .i64 a, .int .i64 b, .int .i64 c] 29))
  cases h1 : beganB ⟨po, ⟨k, x, y, z⟩, ti, wh, ha, cn, be, re, ou⟩
  case true =>
    rw [show hcallB a b c ⟨po, ⟨k, x, y, z⟩, ti, wh, ha, cn, be, re, ou⟩ = true by simp [hcallB, h1]]
    go_enter Try.func25, Try.ntmps25
    go_wp2_with (first
      | (go_at_call 31; refine (notBegun_twelve _ _ _ _ _ _ _ _ _ _ _ _ _).mono ?_; rintro e w1 ⟨rfl, hb⟩; replace kk := kk.trans (hb.mono kk.size); clear hb; (try clear hc hf); obtain ⟨hc, hf⟩ := bcell kk)
      | (go_at_call 32; refine (rightInC_four _ _ _ _ _ _ _ _).mono ?_; rintro e w1 ⟨rfl, hb⟩; replace kk := kk.trans (hb.mono kk.size); clear hb; (try clear hc hf); obtain ⟨hc, hf⟩ := bcell kk))
    go_ret
    exact ⟨ret_bool' (by simp), k0.trans (kk.mono k0.size)⟩
  go_enter Try.func25, Try.ntmps25
  go_wp2_with (first
    | (go_at_call 31; refine (notBegun_twelve _ _ _ _ _ _ _ _ _ _ _ _ _).mono ?_; rintro e w1 ⟨rfl, hb⟩; replace kk := kk.trans (hb.mono kk.size); clear hb; (try clear hc hf); obtain ⟨hc, hf⟩ := bcell kk)
    | (go_at_call 32; refine (rightInC_four _ _ _ _ _ _ _ _).mono ?_; rintro e w1 ⟨rfl, hb⟩; replace kk := kk.trans (hb.mono kk.size); clear hb; (try clear hc hf); obtain ⟨hc, hf⟩ := bcell kk))
  go_ret
  exact ⟨ret_bool' (by simp [hcallB, h1]), k0.trans (kk.mono k0.size)⟩

set_option maxRecDepth 100000 in
set_option maxHeartbeats 2000000 in
theorem numbersRightH_twelve (po k x y z ti wh : Int) (ha : Bool) (cn be re ou : Int) (w : World) : Calls Try.prog 23 #[.agg #[.int .i64 po, .int .i64 k, .int .i64 x, .int .i64 y, .int .i64 z, .int .i64 ti, .int .i64 wh, .bool ha, .int .i64 cn, .int .i64 be, .int .i64 re, .int .i64 ou]] w fun e w' => e = .returned (.bool (hdNumB ⟨po, ⟨k, x, y, z⟩, ti, wh, ha, cn, be, re, ou⟩)) ∧ Below w.heap.size w w' := by
  have k0 := ((Below.refl w.heap.size w).alloc (Nat.le_refl _) (.cells #[.int .i64 po, .int .i64 k, .int .i64 x, .int .i64 y, .int .i64 z, .int .i64 ti, .int .i64 wh, .bool ha, .int .i64 cn, .int .i64 be, .int .i64 re, .int .i64 ou] 33))
  have kk := Below.refl (w.alloc (.cells #[.int .i64 po, .int .i64 k, .int .i64 x, .int .i64 y, .int .i64 z, .int .i64 ti, .int .i64 wh, .bool ha, .int .i64 cn, .int .i64 be, .int .i64 re, .int .i64 ou] 33)).heap.size (w.alloc (.cells #[.int .i64 po, .int .i64 k, .int .i64 x, .int .i64 y, .int .i64 z, .int .i64 ti, .int .i64 wh, .bool ha, .int .i64 cn, .int .i64 be, .int .i64 re, .int .i64 ou] 33))
  cases h0 : inB po 0 18
  · skip
    rw [show hdNumB ⟨po, ⟨k, x, y, z⟩, ti, wh, ha, cn, be, re, ou⟩ = false by simp [hdNumB, h0]]
    go_enter Try.func23, Try.ntmps23
    go_wp2_with (first
      | (go_at_call 28; refine (within_any _ _ _ _).mono ?_; rintro e w' ⟨rfl, rfl⟩)
      | (go_at_call 29; refine (isTime_any _ _).mono ?_; rintro e w' ⟨rfl, rfl⟩))
    go_ret
    exact ⟨ret_bool' (by simp), k0.trans (kk.mono k0.size)⟩
  cases h1 : inB wh 0 1000000000
  · skip
    rw [show hdNumB ⟨po, ⟨k, x, y, z⟩, ti, wh, ha, cn, be, re, ou⟩ = false by simp [hdNumB, h0, h1]]
    go_enter Try.func23, Try.ntmps23
    go_wp2_with (first
      | (go_at_call 28; refine (within_any _ _ _ _).mono ?_; rintro e w' ⟨rfl, rfl⟩)
      | (go_at_call 29; refine (isTime_any _ _).mono ?_; rintro e w' ⟨rfl, rfl⟩))
    go_ret
    exact ⟨ret_bool' (by simp), k0.trans (kk.mono k0.size)⟩
  cases h2 : inB cn 0 1000
  · skip
    rw [show hdNumB ⟨po, ⟨k, x, y, z⟩, ti, wh, ha, cn, be, re, ou⟩ = false by simp [hdNumB, h0, h1, h2]]
    go_enter Try.func23, Try.ntmps23
    go_wp2_with (first
      | (go_at_call 28; refine (within_any _ _ _ _).mono ?_; rintro e w' ⟨rfl, rfl⟩)
      | (go_at_call 29; refine (isTime_any _ _).mono ?_; rintro e w' ⟨rfl, rfl⟩))
    go_ret
    exact ⟨ret_bool' (by simp), k0.trans (kk.mono k0.size)⟩
  cases h3 : inB be 0 20000
  · skip
    rw [show hdNumB ⟨po, ⟨k, x, y, z⟩, ti, wh, ha, cn, be, re, ou⟩ = false by simp [hdNumB, h0, h1, h2, h3]]
    go_enter Try.func23, Try.ntmps23
    go_wp2_with (first
      | (go_at_call 28; refine (within_any _ _ _ _).mono ?_; rintro e w' ⟨rfl, rfl⟩)
      | (go_at_call 29; refine (isTime_any _ _).mono ?_; rintro e w' ⟨rfl, rfl⟩))
    go_ret
    exact ⟨ret_bool' (by simp), k0.trans (kk.mono k0.size)⟩
  cases h4 : inB re 0 5
  · skip
    rw [show hdNumB ⟨po, ⟨k, x, y, z⟩, ti, wh, ha, cn, be, re, ou⟩ = false by simp [hdNumB, h0, h1, h2, h3, h4]]
    go_enter Try.func23, Try.ntmps23
    go_wp2_with (first
      | (go_at_call 28; refine (within_any _ _ _ _).mono ?_; rintro e w' ⟨rfl, rfl⟩)
      | (go_at_call 29; refine (isTime_any _ _).mono ?_; rintro e w' ⟨rfl, rfl⟩))
    go_ret
    exact ⟨ret_bool' (by simp), k0.trans (kk.mono k0.size)⟩
  go_enter Try.func23, Try.ntmps23
  go_wp2_with (first
    | (go_at_call 28; refine (within_any _ _ _ _).mono ?_; rintro e w' ⟨rfl, rfl⟩)
    | (go_at_call 29; refine (isTime_any _ _).mono ?_; rintro e w' ⟨rfl, rfl⟩))
  go_ret
  exact ⟨ret_bool' (by simp [hdNumB, h0, h1, h2, h3, h4]), k0.trans (kk.mono k0.size)⟩

theorem im_hand (a b c : Int) (h : Hd) : (planB a b c && (hdNumB h && (timB a b c h && hcallB a b c h))) = handB a b c h := by
  cases h1 : planB a b c
  · simp [handB, h1]
  obtain ⟨b0, b1, b2⟩ := planB_iff.1 h1
  have e : timB a b c h = inB h.tim (-1) (c - 1) := by
    rw [Bool.eq_iff_iff]
    simp [timB, mayB, h1, inB_iff]
    omega
  simp only [handB, h1, e, hcallB, beganB, im_named h1, Bool.true_and]
  rw [Bool.or_comm]

set_option maxRecDepth 100000 in
set_option maxHeartbeats 2000000 in
theorem imHandOk_twelve (a b c : Int) (po k x y z ti wh : Int) (ha : Bool) (cn be re ou : Int) (w : World) : Calls Try.prog 9 #[.agg #[.int .i64 a, .int .i64 b, .int .i64 c], .agg #[.int .i64 po, .int .i64 k, .int .i64 x, .int .i64 y, .int .i64 z, .int .i64 ti, .int .i64 wh, .bool ha, .int .i64 cn, .int .i64 be, .int .i64 re, .int .i64 ou]] w fun e w' => e = .returned (.bool (handB a b c ⟨po, ⟨k, x, y, z⟩, ti, wh, ha, cn, be, re, ou⟩)) ∧ Below w.heap.size w w' := by
  have k0 := (((Below.refl w.heap.size w).alloc (Nat.le_refl _) (.cells #[.int .i64 a, .int .i64 b, .int .i64 c] 29)).alloc (by simp) (.cells #[.int .i64 po, .int .i64 k, .int .i64 x, .int .i64 y, .int .i64 z, .int .i64 ti, .int .i64 wh, .bool ha, .int .i64 cn, .int .i64 be, .int .i64 re, .int .i64 ou] 33))
  have kk := Below.refl ((w.alloc (.cells #[.int .i64 a, .int .i64 b, .int .i64 c] 29)).alloc (.cells #[.int .i64 po, .int .i64 k, .int .i64 x, .int .i64 y, .int .i64 z, .int .i64 ti, .int .i64 wh, .bool ha, .int .i64 cn, .int .i64 be, .int .i64 re, .int .i64 ou] 33)).heap.size ((w.alloc (.cells #[.int .i64 a, .int .i64 b, .int .i64 c] 29)).alloc (.cells #[.int .i64 po, .int .i64 k, .int .i64 x, .int .i64 y, .int .i64 z, .int .i64 ti, .int .i64 wh, .bool ha, .int .i64 cn, .int .i64 be, .int .i64 re, .int .i64 ou] 33))
  rw [← im_hand]
  cases h0 : planB a b c
  · skip
    go_enter Try.func9, Try.ntmps9
    go_wp2_with (first
      | (go_at_call 22; refine (right_any _ _ _ _).mono ?_; rintro e w1 ⟨rfl, hb⟩; replace kk := kk.trans (hb.mono kk.size); clear hb; (try clear hc hf); obtain ⟨hc, hf⟩ := bcell kk)
      | (go_at_call 23; refine (numbersRightH_twelve _ _ _ _ _ _ _ _ _ _ _ _ _).mono ?_; rintro e w1 ⟨rfl, hb⟩; replace kk := kk.trans (hb.mono kk.size); clear hb; (try clear hc hf); obtain ⟨hc, hf⟩ := bcell kk)
      | (go_at_call 24; refine (timerRightH_twelve _ _ _ _ _ _ _ _ _ _ _ _ _ _ _ _).mono ?_; rintro e w1 ⟨rfl, hb⟩; replace kk := kk.trans (hb.mono kk.size); clear hb; (try clear hc hf); obtain ⟨hc, hf⟩ := bcell kk)
      | (go_at_call 25; refine (callRightH_twelve _ _ _ _ _ _ _ _ _ _ _ _ _ _ _ _).mono ?_; rintro e w1 ⟨rfl, hb⟩; replace kk := kk.trans (hb.mono kk.size); clear hb; (try clear hc hf); obtain ⟨hc, hf⟩ := bcell kk))
    go_ret
    exact ⟨ret_bool' (by simp []), k0.trans (kk.mono k0.size)⟩
  cases h1 : hdNumB ⟨po, ⟨k, x, y, z⟩, ti, wh, ha, cn, be, re, ou⟩
  · skip
    go_enter Try.func9, Try.ntmps9
    go_wp2_with (first
      | (go_at_call 22; refine (right_any _ _ _ _).mono ?_; rintro e w1 ⟨rfl, hb⟩; replace kk := kk.trans (hb.mono kk.size); clear hb; (try clear hc hf); obtain ⟨hc, hf⟩ := bcell kk)
      | (go_at_call 23; refine (numbersRightH_twelve _ _ _ _ _ _ _ _ _ _ _ _ _).mono ?_; rintro e w1 ⟨rfl, hb⟩; replace kk := kk.trans (hb.mono kk.size); clear hb; (try clear hc hf); obtain ⟨hc, hf⟩ := bcell kk)
      | (go_at_call 24; refine (timerRightH_twelve _ _ _ _ _ _ _ _ _ _ _ _ _ _ _ _).mono ?_; rintro e w1 ⟨rfl, hb⟩; replace kk := kk.trans (hb.mono kk.size); clear hb; (try clear hc hf); obtain ⟨hc, hf⟩ := bcell kk)
      | (go_at_call 25; refine (callRightH_twelve _ _ _ _ _ _ _ _ _ _ _ _ _ _ _ _).mono ?_; rintro e w1 ⟨rfl, hb⟩; replace kk := kk.trans (hb.mono kk.size); clear hb; (try clear hc hf); obtain ⟨hc, hf⟩ := bcell kk))
    go_ret
    exact ⟨ret_bool' (by simp []), k0.trans (kk.mono k0.size)⟩
  cases h2 : timB a b c ⟨po, ⟨k, x, y, z⟩, ti, wh, ha, cn, be, re, ou⟩
  · skip
    go_enter Try.func9, Try.ntmps9
    go_wp2_with (first
      | (go_at_call 22; refine (right_any _ _ _ _).mono ?_; rintro e w1 ⟨rfl, hb⟩; replace kk := kk.trans (hb.mono kk.size); clear hb; (try clear hc hf); obtain ⟨hc, hf⟩ := bcell kk)
      | (go_at_call 23; refine (numbersRightH_twelve _ _ _ _ _ _ _ _ _ _ _ _ _).mono ?_; rintro e w1 ⟨rfl, hb⟩; replace kk := kk.trans (hb.mono kk.size); clear hb; (try clear hc hf); obtain ⟨hc, hf⟩ := bcell kk)
      | (go_at_call 24; refine (timerRightH_twelve _ _ _ _ _ _ _ _ _ _ _ _ _ _ _ _).mono ?_; rintro e w1 ⟨rfl, hb⟩; replace kk := kk.trans (hb.mono kk.size); clear hb; (try clear hc hf); obtain ⟨hc, hf⟩ := bcell kk)
      | (go_at_call 25; refine (callRightH_twelve _ _ _ _ _ _ _ _ _ _ _ _ _ _ _ _).mono ?_; rintro e w1 ⟨rfl, hb⟩; replace kk := kk.trans (hb.mono kk.size); clear hb; (try clear hc hf); obtain ⟨hc, hf⟩ := bcell kk))
    go_ret
    exact ⟨ret_bool' (by simp []), k0.trans (kk.mono k0.size)⟩
  go_enter Try.func9, Try.ntmps9
  go_wp2_with (first
    | (go_at_call 22; refine (right_any _ _ _ _).mono ?_; rintro e w1 ⟨rfl, hb⟩; replace kk := kk.trans (hb.mono kk.size); clear hb; (try clear hc hf); obtain ⟨hc, hf⟩ := bcell kk)
    | (go_at_call 23; refine (numbersRightH_twelve _ _ _ _ _ _ _ _ _ _ _ _ _).mono ?_; rintro e w1 ⟨rfl, hb⟩; replace kk := kk.trans (hb.mono kk.size); clear hb; (try clear hc hf); obtain ⟨hc, hf⟩ := bcell kk)
    | (go_at_call 24; refine (timerRightH_twelve _ _ _ _ _ _ _ _ _ _ _ _ _ _ _ _).mono ?_; rintro e w1 ⟨rfl, hb⟩; replace kk := kk.trans (hb.mono kk.size); clear hb; (try clear hc hf); obtain ⟨hc, hf⟩ := bcell kk)
    | (go_at_call 25; refine (callRightH_twelve _ _ _ _ _ _ _ _ _ _ _ _ _ _ _ _).mono ?_; rintro e w1 ⟨rfl, hb⟩; replace kk := kk.trans (hb.mono kk.size); clear hb; (try clear hc hf); obtain ⟨hc, hf⟩ := bcell kk))
  go_ret
  exact ⟨ret_bool' (by simp []), k0.trans (kk.mono k0.size)⟩

theorem imHandOk_any (a b c : Int) (h : Hd) (w : World) :
    Calls Try.prog 9 #[.agg #[.int .i64 a, .int .i64 b, .int .i64 c], hdV h] w fun e w' => e = .returned (.bool (handB a b c h)) ∧ Below w.heap.size w w' :=
  imHandOk_twelve a b c h.pos h.call.code h.call.a h.call.b h.call.c h.tim h.whe h.had h.cnt h.beg h.rep h.out w

end Go.Proofs.Ytmealgiknkmibaa
