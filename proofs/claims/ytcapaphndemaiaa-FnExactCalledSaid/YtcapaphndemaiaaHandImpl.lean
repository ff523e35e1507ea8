/-
  Hands, in the program.
-/
import Derived.Test.YtcapaphndemaiaaCallImpl
namespace Go.Proofs.Ytcapaphndemaiaa
open Go.RowKit Go.Joins
set_option linter.unusedVariables false

set_option maxRecDepth 100000 in
set_option maxHeartbeats 400000 in
theorem imNewHand_any (w : World) : Calls Try.prog 32 #[] w fun e w' => e = .returned (hdV newHd) ∧ Below w.heap.size w w' := by
  go_enter Try.func32, Try.ntmps32
  go_wp2
  exact bodyPost_ret (v := hdV newHd) (by simp [results, Try.results32, go_sem, newHd, ca0]) rfl ⟨rfl, by first | exact Below.refl _ _ | exact (Below.refl _ _).alloc (Nat.le_refl _) _ | exact ((Below.refl _ _).alloc (Nat.le_refl _) _).alloc (by simp) _⟩

def beganB (h : Hd) : Bool := h.pos == 0 && noneB h.call
def timB (a b c : Int) (h : Hd) : Bool := h.tim == -1 || mayB a b c h.tim
def hcallB (a b c : Int) (h : Hd) : Bool := beganB h || (imNamedB a b c h.call && imRestB h.call)

set_option maxRecDepth 100000 in
set_option maxHeartbeats 1000000 in
theorem notBegun_twelve (po k x y z ti wh : Int) (ha : Bool) (cn be re ou : Int) (w : World) : Calls Try.prog 37 #[.agg #[.int .i64 po, .int .i64 k, .int .i64 x, .int .i64 y, .int .i64 z, .int .i64 ti, .int .i64 wh, .bool ha, .int .i64 cn, .int .i64 be, .int .i64 re, .int .i64 ou]] w fun e w' => e = .returned (.bool (beganB ⟨po, ⟨k, x, y, z⟩, ti, wh, ha, cn, be, re, ou⟩)) ∧ Below w.heap.size w w' := by
  have k0 := ((Below.refl w.heap.size w).alloc (Nat.le_refl _) (.cells #[.int .i64 po, .int .i64 k, .int .i64 x, .int .i64 y, .int .i64 z, .int .i64 ti, .int .i64 wh, .bool ha, .int .i64 cn, .int .i64 be, .int .i64 re, .int .i64 ou] 35))
  have kk := Below.refl (w.alloc (.cells #[.int .i64 po, .int .i64 k, .int .i64 x, .int .i64 y, .int .i64 z, .int .i64 ti, .int .i64 wh, .bool ha, .int .i64 cn, .int .i64 be, .int .i64 re, .int .i64 ou] 35)).heap.size (w.alloc (.cells #[.int .i64 po, .int .i64 k, .int .i64 x, .int .i64 y, .int .i64 z, .int .i64 ti, .int .i64 wh, .bool ha, .int .i64 cn, .int .i64 be, .int .i64 re, .int .i64 ou] 35))
  by_cases h0 : po = 0
  case neg =>
    have h0b : (po == 0) = false := by simpa using h0
    rw [show beganB ⟨po, ⟨k, x, y, z⟩, ti, wh, ha, cn, be, re, ou⟩ = false by simp [beganB, noneB, h0]]
    go_enter Try.func37, Try.ntmps37
    go_wp2
    all_goals
      go_ret
      exact ⟨ret_bool' (by simp), k0.trans (kk.mono k0.size)⟩
  subst h0
  by_cases h1 : k = 0
  case neg =>
    rw [show beganB ⟨0, ⟨k, x, y, z⟩, ti, wh, ha, cn, be, re, ou⟩ = false by simp [beganB, noneB, h1]]
    go_enter Try.func37, Try.ntmps37
    go_wp2
    all_goals
      go_ret
      exact ⟨ret_bool' (by simp), k0.trans (kk.mono k0.size)⟩
  subst h1
  by_cases h2 : x = 0
  case neg =>
    rw [show beganB ⟨0, ⟨0, x, y, z⟩, ti, wh, ha, cn, be, re, ou⟩ = false by simp [beganB, noneB, h2]]
    go_enter Try.func37, Try.ntmps37
    go_wp2
    all_goals
      go_ret
      exact ⟨ret_bool' (by simp), k0.trans (kk.mono k0.size)⟩
  subst h2
  by_cases h3 : y = 0
  case neg =>
    rw [show beganB ⟨0, ⟨0, 0, y, z⟩, ti, wh, ha, cn, be, re, ou⟩ = false by simp [beganB, noneB, h3]]
    go_enter Try.func37, Try.ntmps37
    go_wp2
    all_goals
      go_ret
      exact ⟨ret_bool' (by simp), k0.trans (kk.mono k0.size)⟩
  subst h3
  by_cases h4 : z = 0
  case neg =>
    rw [show beganB ⟨0, ⟨0, 0, 0, z⟩, ti, wh, ha, cn, be, re, ou⟩ = false by simp [beganB, noneB, h4]]
    go_enter Try.func37, Try.ntmps37
    go_wp2
    all_goals
      go_ret
      exact ⟨ret_bool' (by simp), k0.trans (kk.mono k0.size)⟩
  subst h4
  rw [show beganB ⟨0, ⟨0, 0, 0, 0⟩, ti, wh, ha, cn, be, re, ou⟩ = true by simp [beganB, noneB]]
  go_enter Try.func37, Try.ntmps37
  go_wp2
  all_goals
    go_ret
    exact ⟨ret_bool' (by simp), k0.trans (kk.mono k0.size)⟩

set_option maxRecDepth 100000 in
set_option maxHeartbeats 1000000 in
theorem timerRightH_twelve (a b c : Int) (po k x y z ti wh : Int) (ha : Bool) (cn be re ou : Int) (w : World) : Calls Try.prog 30 #[.agg #[.int .i64 po, .int .i64 k, .int .i64 x, .int .i64 y, .int .i64 z, .int .i64 ti, .int .i64 wh, .bool ha, .int .i64 cn, .int .i64 be, .int .i64 re, .int .i64 ou], .agg #[.int .i64 a, .int .i64 b, .int .i64 c]] w fun e w' => e = .returned (.bool (timB a b c ⟨po, ⟨k, x, y, z⟩, ti, wh, ha, cn, be, re, ou⟩)) ∧ Below w.heap.size w w' := by
  have k0 := (((Below.refl w.heap.size w).alloc (Nat.le_refl _) (.cells #[.int .i64 po, .int .i64 k, .int .i64 x, .int .i64 y, .int .i64 z, .int .i64 ti, .int .i64 wh, .bool ha, .int .i64 cn, .int .i64 be, .int .i64 re, .int .i64 ou] 35)).alloc (by simp) (.cells #[.int .i64 a, .int .i64 b, .int .i64 c] 27))
  have kk := Below.refl ((w.alloc (.cells #[.int .i64 po, .int .i64 k, .int .i64 x, .int .i64 y, .int .i64 z, .int .i64 ti, .int .i64 wh, .bool ha, .int .i64 cn, .int .i64 be, .int .i64 re, .int .i64 ou] 35)).alloc (.cells #[.int .i64 a, .int .i64 b, .int .i64 c] 27)).heap.size ((w.alloc (.cells #[.int .i64 po, .int .i64 k, .int .i64 x, .int .i64 y, .int .i64 z, .int .i64 ti, .int .i64 wh, .bool ha, .int .i64 cn, .int .i64 be, .int .i64 re, .int .i64 ou] 35)).alloc (.cells #[.int .i64 a, .int .i64 b, .int .i64 c] 27))
  by_cases h1 : ti = -1
  case pos =>
    subst h1
    rw [show timB a b c ⟨po, ⟨k, x, y, z⟩, -1, wh, ha, cn, be, re, ou⟩ = true by simp [timB]]
    go_enter Try.func30, Try.ntmps30
    go_wp2_with (first
      | (go_at_call 35; refine (mayHave_any _ _ _ _ _).mono ?_; rintro e w1 ⟨rfl, hb⟩; replace kk := kk.trans (hb.mono kk.size); clear hb; (try clear hc hf); obtain ⟨hc, hf⟩ := bcell kk))
    go_ret
    exact ⟨ret_bool' (by simp), k0.trans (kk.mono k0.size)⟩
  have h1b : (ti == -1) = false := by simpa using h1
  go_enter Try.func30, Try.ntmps30
  go_wp2_with (first
    | (go_at_call 35; refine (mayHave_any _ _ _ _ _).mono ?_; rintro e w1 ⟨rfl, hb⟩; replace kk := kk.trans (hb.mono kk.size); clear hb; (try clear hc hf); obtain ⟨hc, hf⟩ := bcell kk))
  go_ret
  exact ⟨ret_bool' (by simp [timB, h1]), k0.trans (kk.mono k0.size)⟩

set_option maxRecDepth 100000 in
set_option maxHeartbeats 1000000 in
theorem callRightH_twelve (a b c : Int) (po k x y z ti wh : Int) (ha : Bool) (cn be re ou : Int) (w : World) : Calls Try.prog 31 #[.agg #[.int .i64 po, .int .i64 k, .int .i64 x, .int .i64 y, .int .i64 z, .int .i64 ti, .int .i64 wh, .bool ha, .int .i64 cn, .int .i64 be, .int .i64 re, .int .i64 ou], .agg #[.int .i64 a, .int .i64 b, .int .i64 c]] w fun e w' => e = .returned (.bool (hcallB a b c ⟨po, ⟨k, x, y, z⟩, ti, wh, ha, cn, be, re, ou⟩)) ∧ Below w.heap.size w w' := by
  have k0 := (((Below.refl w.heap.size w).alloc (Nat.le_refl _) (.cells #[.int .i64 po, .int .i64 k, .int .i64 x, .int .i64 y, .int .i64 z, .int .i64 ti, .int .i64 wh, .bool ha, .int .i64 cn, .int .i64 be, .int .i64 re, .int .i64 ou] 35)).alloc (by simp) (.cells #[.int .i64 a, .int .i64 b, .int .i64 c] 27))
  have kk := Below.refl ((w.alloc (.cells #[.int .i64 po, .int .i64 k, .int .i64 x, .int .i64 y, .int .i64 z, .int .i64 ti, .int .i64 wh, .bool ha, .int .i64 cn, .int .i64 be, .int .i64 re, .int .i64 ou] 35)).alloc (.cells #[.int .i64 a, .int .i64 b, .int .i64 c] 27)).heap.size ((w.alloc (.cells #[.int .i64 po, .int .i64 k, .int .i64 x, .int .i64 y, .int .i64 z, .int .i64 ti, .int .i64 wh, .bool ha, .int .i64 cn, .int .i64 be, .int .i64 re, .int .i64 ou] 35)).alloc (.cells #[.int .i64 a, .int .i64 b, .int .i64 c] 27))
  cases h1 : beganB ⟨po, ⟨k, x, y, z⟩, ti, wh, ha, cn, be, re, ou⟩
  case true =>
    rw [show hcallB a b c ⟨po, ⟨k, x, y, z⟩, ti, wh, ha, cn, be, re, ou⟩ = true by simp [hcallB, h1]]
    go_enter Try.func31, Try.ntmps31
    go_wp2_with (first
      | (go_at_call 37; refine (notBegun_twelve _ _ _ _ _ _ _ _ _ _ _ _ _).mono ?_; rintro e w1 ⟨rfl, hb⟩; replace kk := kk.trans (hb.mono kk.size); clear hb; (try clear hc hf); obtain ⟨hc, hf⟩ := bcell kk)
      | (go_at_call 18; refine (rightInC_four _ _ _ _ _ _ _ _).mono ?_; rintro e w1 ⟨rfl, hb⟩; replace kk := kk.trans (hb.mono kk.size); clear hb; (try clear hc hf); obtain ⟨hc, hf⟩ := bcell kk))
    go_ret
    exact ⟨ret_bool' (by simp), k0.trans (kk.mono k0.size)⟩
  go_enter Try.func31, Try.ntmps31
  go_wp2_with (first
    | (go_at_call 37; refine (notBegun_twelve _ _ _ _ _ _ _ _ _ _ _ _ _).mono ?_; rintro e w1 ⟨rfl, hb⟩; replace kk := kk.trans (hb.mono kk.size); clear hb; (try clear hc hf); obtain ⟨hc, hf⟩ := bcell kk)
    | (go_at_call 18; refine (rightInC_four _ _ _ _ _ _ _ _).mono ?_; rintro e w1 ⟨rfl, hb⟩; replace kk := kk.trans (hb.mono kk.size); clear hb; (try clear hc hf); obtain ⟨hc, hf⟩ := bcell kk))
  go_ret
  exact ⟨ret_bool' (by simp [hcallB, h1]), k0.trans (kk.mono k0.size)⟩

set_option maxRecDepth 100000 in
set_option maxHeartbeats 2000000 in
theorem numbersRightH_twelve (po k x y z ti wh : Int) (ha : Bool) (cn be re ou : Int) (w : World) : Calls Try.prog 29 #[.agg #[.int .i64 po, .int .i64 k, .int .i64 x, .int .i64 y, .int .i64 z, .int .i64 ti, .int .i64 wh, .bool ha, .int .i64 cn, .int .i64 be, .int .i64 re, .int .i64 ou]] w fun e w' => e = .returned (.bool (hdNumB ⟨po, ⟨k, x, y, z⟩, ti, wh, ha, cn, be, re, ou⟩)) ∧ Below w.heap.size w w' := by
  have k0 := ((Below.refl w.heap.size w).alloc (Nat.le_refl _) (.cells #[.int .i64 po, .int .i64 k, .int .i64 x, .int .i64 y, .int .i64 z, .int .i64 ti, .int .i64 wh, .bool ha, .int .i64 cn, .int .i64 be, .int .i64 re, .int .i64 ou] 35))
  have kk := Below.refl (w.alloc (.cells #[.int .i64 po, .int .i64 k, .int .i64 x, .int .i64 y, .int .i64 z, .int .i64 ti, .int .i64 wh, .bool ha, .int .i64 cn, .int .i64 be, .int .i64 re, .int .i64 ou] 35)).heap.size (w.alloc (.cells #[.int .i64 po, .int .i64 k, .int .i64 x, .int .i64 y, .int .i64 z, .int .i64 ti, .int .i64 wh, .bool ha, .int .i64 cn, .int .i64 be, .int .i64 re, .int .i64 ou] 35))
  cases h0 : inB po 0 18
  · skip
    rw [show hdNumB ⟨po, ⟨k, x, y, z⟩, ti, wh, ha, cn, be, re, ou⟩ = false by simp [hdNumB, h0]]
    go_enter Try.func29, Try.ntmps29
    go_wp2_with (first
      | (go_at_call 24; refine (within_any _ _ _ _).mono ?_; rintro e w' ⟨rfl, rfl⟩)
      | (go_at_call 34; refine (isTime_any _ _).mono ?_; rintro e w' ⟨rfl, rfl⟩))
    go_ret
    exact ⟨ret_bool' (by simp), k0.trans (kk.mono k0.size)⟩
  cases h1 : inB wh 0 1000000000
  · skip
    rw [show hdNumB ⟨po, ⟨k, x, y, z⟩, ti, wh, ha, cn, be, re, ou⟩ = false by simp [hdNumB, h0, h1]]
    go_enter Try.func29, Try.ntmps29
    go_wp2_with (first
      | (go_at_call 24; refine (within_any _ _ _ _).mono ?_; rintro e w' ⟨rfl, rfl⟩)
      | (go_at_call 34; refine (isTime_any _ _).mono ?_; rintro e w' ⟨rfl, rfl⟩))
    go_ret
    exact ⟨ret_bool' (by simp), k0.trans (kk.mono k0.size)⟩
  cases h2 : inB cn 0 1000
  · skip
    rw [show hdNumB ⟨po, ⟨k, x, y, z⟩, ti, wh, ha, cn, be, re, ou⟩ = false by simp [hdNumB, h0, h1, h2]]
    go_enter Try.func29, Try.ntmps29
    go_wp2_with (first
      | (go_at_call 24; refine (within_any _ _ _ _).mono ?_; rintro e w' ⟨rfl, rfl⟩)
      | (go_at_call 34; refine (isTime_any _ _).mono ?_; rintro e w' ⟨rfl, rfl⟩))
    go_ret
    exact ⟨ret_bool' (by simp), k0.trans (kk.mono k0.size)⟩
  cases h3 : inB be 0 20000
  · skip
    rw [show hdNumB ⟨po, ⟨k, x, y, z⟩, ti, wh, ha, cn, be, re, ou⟩ = false by simp [hdNumB, h0, h1, h2, h3]]
    go_enter Try.func29, Try.ntmps29
    go_wp2_with (first
      | (go_at_call 24; refine (within_any _ _ _ _).mono ?_; rintro e w' ⟨rfl, rfl⟩)
      | (go_at_call 34; refine (isTime_any _ _).mono ?_; rintro e w' ⟨rfl, rfl⟩))
    go_ret
    exact ⟨ret_bool' (by simp), k0.trans (kk.mono k0.size)⟩
  cases h4 : inB re 0 5
  · skip
    rw [show hdNumB ⟨po, ⟨k, x, y, z⟩, ti, wh, ha, cn, be, re, ou⟩ = false by simp [hdNumB, h0, h1, h2, h3, h4]]
    go_enter Try.func29, Try.ntmps29
    go_wp2_with (first
      | (go_at_call 24; refine (within_any _ _ _ _).mono ?_; rintro e w' ⟨rfl, rfl⟩)
      | (go_at_call 34; refine (isTime_any _ _).mono ?_; rintro e w' ⟨rfl, rfl⟩))
    go_ret
    exact ⟨ret_bool' (by simp), k0.trans (kk.mono k0.size)⟩
  go_enter Try.func29, Try.ntmps29
  go_wp2_with (first
    | (go_at_call 24; refine (within_any _ _ _ _).mono ?_; rintro e w' ⟨rfl, rfl⟩)
    | (go_at_call 34; refine (isTime_any _ _).mono ?_; rintro e w' ⟨rfl, rfl⟩))
  go_ret
  exact ⟨ret_bool' (by simp [hdNumB, h0, h1, h2, h3, h4]), k0.trans (kk.mono k0.size)⟩

theorem im_hand (a b c : Int) (h : Hd) : (planB a b c && (hdNumB h && (timB a b c h && hcallB a b c h))) = handB a b c h := by
  cases h1 : planB a b c
  · simp [handB, h1]
  obtain ⟨b0, b1, b2⟩ := planB_iff.1 h1
  have e : timB a b c h = inB h.tim (-1) (c - 1) := by
    rw [Bool.eq_iff_iff]
    simp [timB, mayB, h1, inB_iff]
    omega
  simp only [handB, h1, e, hcallB, beganB, im_named h1, Bool.true_and]
  rw [Bool.or_comm]

set_option maxRecDepth 100000 in
set_option maxHeartbeats 2000000 in
theorem imHandOk_twelve (a b c : Int) (po k x y z ti wh : Int) (ha : Bool) (cn be re ou : Int) (w : World) : Calls Try.prog 21 #[.agg #[.int .i64 a, .int .i64 b, .int .i64 c], .agg #[.int .i64 po, .int .i64 k, .int .i64 x, .int .i64 y, .int .i64 z, .int .i64 ti, .int .i64 wh, .bool ha, .int .i64 cn, .int .i64 be, .int .i64 re, .int .i64 ou]] w fun e w' => e = .returned (.bool (handB a b c ⟨po, ⟨k, x, y, z⟩, ti, wh, ha, cn, be, re, ou⟩)) ∧ Below w.heap.size w w' := by
  have k0 := (((Below.refl w.heap.size w).alloc (Nat.le_refl _) (.cells #[.int .i64 a, .int .i64 b, .int .i64 c] 27)).alloc (by simp) (.cells #[.int .i64 po, .int .i64 k, .int .i64 x, .int .i64 y, .int .i64 z, .int .i64 ti, .int .i64 wh, .bool ha, .int .i64 cn, .int .i64 be, .int .i64 re, .int .i64 ou] 35))
  have kk := Below.refl ((w.alloc (.cells #[.int .i64 a, .int .i64 b, .int .i64 c] 27)).alloc (.cells #[.int .i64 po, .int .i64 k, .int .i64 x, .int .i64 y, .int .i64 z, .int .i64 ti, .int .i64 wh, .bool ha, .int .i64 cn, .int .i64 be, .int .i64 re, .int .i64 ou] 35)).heap.size ((w.alloc (.cells #[.int .i64 a, .int .i64 b, .int .i64 c] 27)).alloc (.cells #[.int .i64 po, .int .i64 k, .int .i64 x, .int .i64 y, .int .i64 z, .int .i64 ti, .int .i64 wh, .bool ha, .int .i64 cn, .int .i64 be, .int .i64 re, .int .i64 ou] 35))
  rw [← im_hand]
  cases h0 : planB a b c
  · skip
    go_enter Try.func21, Try.ntmps21
    go_wp2_with (first
      | (go_at_call 17; refine (right_any _ _ _ _).mono ?_; rintro e w1 ⟨rfl, hb⟩; replace kk := kk.trans (hb.mono kk.size); clear hb; (try clear hc hf); obtain ⟨hc, hf⟩ := bcell kk)
      | (go_at_call 29; refine (numbersRightH_twelve _ _ _ _ _ _ _ _ _ _ _ _ _).mono ?_; rintro e w1 ⟨rfl, hb⟩; replace kk := kk.trans (hb.mono kk.size); clear hb; (try clear hc hf); obtain ⟨hc, hf⟩ := bcell kk)
      | (go_at_call 30; refine (timerRightH_twelve _ _ _ _ _ _ _ _ _ _ _ _ _ _ _ _).mono ?_; rintro e w1 ⟨rfl, hb⟩; replace kk := kk.trans (hb.mono kk.size); clear hb; (try clear hc hf); obtain ⟨hc, hf⟩ := bcell kk)
      | (go_at_call 31; refine (callRightH_twelve _ _ _ _ _ _ _ _ _ _ _ _ _ _ _ _).mono ?_; rintro e w1 ⟨rfl, hb⟩; replace kk := kk.trans (hb.mono kk.size); clear hb; (try clear hc hf); obtain ⟨hc, hf⟩ := bcell kk))
    go_ret
    exact ⟨ret_bool' (by simp []), k0.trans (kk.mono k0.size)⟩
  cases h1 : hdNumB ⟨po, ⟨k, x, y, z⟩, ti, wh, ha, cn, be, re, ou⟩
  · skip
    go_enter Try.func21, Try.ntmps21
    go_wp2_with (first
      | (go_at_call 17; refine (right_any _ _ _ _).mono ?_; rintro e w1 ⟨rfl, hb⟩; replace kk := kk.trans (hb.mono kk.size); clear hb; (try clear hc hf); obtain ⟨hc, hf⟩ := bcell kk)
      | (go_at_call 29; refine (numbersRightH_twelve _ _ _ _ _ _ _ _ _ _ _ _ _).mono ?_; rintro e w1 ⟨rfl, hb⟩; replace kk := kk.trans (hb.mono kk.size); clear hb; (try clear hc hf); obtain ⟨hc, hf⟩ := bcell kk)
      | (go_at_call 30; refine (timerRightH_twelve _ _ _ _ _ _ _ _ _ _ _ _ _ _ _ _).mono ?_; rintro e w1 ⟨rfl, hb⟩; replace kk := kk.trans (hb.mono kk.size); clear hb; (try clear hc hf); obtain ⟨hc, hf⟩ := bcell kk)
      | (go_at_call 31; refine (callRightH_twelve _ _ _ _ _ _ _ _ _ _ _ _ _ _ _ _).mono ?_; rintro e w1 ⟨rfl, hb⟩; replace kk := kk.trans (hb.mono kk.size); clear hb; (try clear hc hf); obtain ⟨hc, hf⟩ := bcell kk))
    go_ret
    exact ⟨ret_bool' (by simp []), k0.trans (kk.mono k0.size)⟩
  cases h2 : timB a b c ⟨po, ⟨k, x, y, z⟩, ti, wh, ha, cn, be, re, ou⟩
  · skip
    go_enter Try.func21, Try.ntmps21
    go_wp2_with (first
      | (go_at_call 17; refine (right_any _ _ _ _).mono ?_; rintro e w1 ⟨rfl, hb⟩; replace kk := kk.trans (hb.mono kk.size); clear hb; (try clear hc hf); obtain ⟨hc, hf⟩ := bcell kk)
      | (go_at_call 29; refine (numbersRightH_twelve _ _ _ _ _ _ _ _ _ _ _ _ _).mono ?_; rintro e w1 ⟨rfl, hb⟩; replace kk := kk.trans (hb.mono kk.size); clear hb; (try clear hc hf); obtain ⟨hc, hf⟩ := bcell kk)
      | (go_at_call 30; refine (timerRightH_twelve _ _ _ _ _ _ _ _ _ _ _ _ _ _ _ _).mono ?_; rintro e w1 ⟨rfl, hb⟩; replace kk := kk.trans (hb.mono kk.size); clear hb; (try clear hc hf); obtain ⟨hc, hf⟩ := bcell kk)
      | (go_at_call 31; refine (callRightH_twelve _ _ _ _ _ _ _ _ _ _ _ _ _ _ _ _).mono ?_; rintro e w1 ⟨rfl, hb⟩; replace kk := kk.trans (hb.mono kk.size); clear hb; (try clear hc hf); obtain ⟨hc, hf⟩ := bcell kk))
    go_ret
    exact ⟨ret_bool' (by simp []), k0.trans (kk.mono k0.size)⟩
  go_enter Try.func21, Try.ntmps21
  go_wp2_with (first
    | (go_at_call 17; refine (right_any _ _ _ _).mono ?_; rintro e w1 ⟨rfl, hb⟩; replace kk := kk.trans (hb.mono kk.size); clear hb; (try clear hc hf); obtain ⟨hc, hf⟩ := bcell kk)
    | (go_at_call 29; refine (numbersRightH_twelve _ _ _ _ _ _ _ _ _ _ _ _ _).mono ?_; rintro e w1 ⟨rfl, hb⟩; replace kk := kk.trans (hb.mono kk.size); clear hb; (try clear hc hf); obtain ⟨hc, hf⟩ := bcell kk)
    | (go_at_call 30; refine (timerRightH_twelve _ _ _ _ _ _ _ _ _ _ _ _ _ _ _ _).mono ?_; rintro e w1 ⟨rfl, hb⟩; replace kk := kk.trans (hb.mono kk.size); clear hb; (try clear hc hf); obtain ⟨hc, hf⟩ := bcell kk)
    | (go_at_call 31; refine (callRightH_twelve _ _ _ _ _ _ _ _ _ _ _ _ _ _ _ _).mono ?_; rintro e w1 ⟨rfl, hb⟩; replace kk := kk.trans (hb.mono kk.size); clear hb; (try clear hc hf); obtain ⟨hc, hf⟩ := bcell kk))
  go_ret
  exact ⟨ret_bool' (by simp []), k0.trans (kk.mono k0.size)⟩

theorem imHandOk_any (a b c : Int) (h : Hd) (w : World) :
    Calls Try.prog 21 #[.agg #[.int .i64 a, .int .i64 b, .int .i64 c], hdV h] w fun e w' => e = .returned (.bool (handB a b c h)) ∧ Below w.heap.size w w' :=
  imHandOk_twelve a b c h.pos h.call.code h.call.a h.call.b h.call.c h.tim h.whe h.had h.cnt h.beg h.rep h.out w

end Go.Proofs.Ytcapaphndemaiaa
