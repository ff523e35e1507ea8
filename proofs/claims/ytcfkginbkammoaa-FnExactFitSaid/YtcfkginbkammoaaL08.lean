/-
  Hands (spec, chapter 7): where a worker is.
-/
import Derived.Test.YtcfkginbkammoaaL07
namespace Go.Proofs.Ytcfkginbkammoaa
open Go.RowKit Go.Joins
set_option linter.unusedVariables false

/-- a hand's numbers, its call and its flag -/
structure Hd where
  pos : Int
  call : Ca
  tim : Int
  whe : Int
  had : Bool
  cnt : Int
  beg : Int
  rep : Int
  out : Int
abbrev hdCells (h : Hd) : Array Value := #[.int .i64 h.pos, .int .i64 h.call.code, .int .i64 h.call.a, .int .i64 h.call.b, .int .i64 h.call.c, .int .i64 h.tim, .int .i64 h.whe, .bool h.had, .int .i64 h.cnt, .int .i64 h.beg, .int .i64 h.rep, .int .i64 h.out]
abbrev hdV (h : Hd) : Value := .agg #[.int .i64 h.pos, .int .i64 h.call.code, .int .i64 h.call.a, .int .i64 h.call.b, .int .i64 h.call.c, .int .i64 h.tim, .int .i64 h.whe, .bool h.had, .int .i64 h.cnt, .int .i64 h.beg, .int .i64 h.rep, .int .i64 h.out]
/-- no call -/
def noneB (q : Ca) : Bool := q.code == 0 && (q.a == 0 && (q.b == 0 && q.c == 0))
theorem noneB_iff {q : Ca} : noneB q = true ↔ q = ca0 := by
  obtain ⟨k, x, y, z⟩ := q
  simp [noneB, ca0]
/-- its numbers are right -/
def hdNumB (h : Hd) : Bool := inB h.pos 0 18 && (inB h.whe 0 1000000000 && (inB h.cnt 0 1000 && (inB h.beg 0 20000 && (inB h.rep 0 5 && inB h.out 0 1000000000))))
/-- is it a right hand? -/
def handB (a b c : Int) (h : Hd) : Bool := planB a b c && (hdNumB h && (inB h.tim (-1) (c - 1) && (callB a b c h.call || (h.pos == 0 && noneB h.call))))
def newHd : Hd := ⟨0, ca0, -1, 0, false, 0, 0, 0, 0⟩
def restHd (r o : Int) : Hd := ⟨0, ca0, -1, 0, false, 0, 0, r, o⟩

set_option maxRecDepth 100000 in
set_option maxHeartbeats 1000000 in
theorem l7None_four (k x y z : Int) (w : World) :
    Calls Try.prog 34 #[.agg #[.int .i64 k, .int .i64 x, .int .i64 y, .int .i64 z]] w fun e w' => e = .returned (.bool (noneB ⟨k, x, y, z⟩)) ∧ Below w.heap.size w w' := by
  have k0 := (Below.refl w.heap.size w).alloc (Nat.le_refl _) (.cells #[.int .i64 k, .int .i64 x, .int .i64 y, .int .i64 z] 41)
  by_cases h1 : k = 0
  case neg =>
    go_enter Try.func34, Try.ntmps34
    go_wp2
    all_goals
      go_ret
      exact ⟨ret_bool' (by simp [noneB, h1]), k0⟩
  subst h1
  by_cases h2 : x = 0
  case neg =>
    go_enter Try.func34, Try.ntmps34
    go_wp2
    all_goals
      go_ret
      exact ⟨ret_bool' (by simp [noneB, h2]), k0⟩
  subst h2
  by_cases h3 : y = 0
  case neg =>
    go_enter Try.func34, Try.ntmps34
    go_wp2
    all_goals
      go_ret
      exact ⟨ret_bool' (by simp [noneB, h3]), k0⟩
  subst h3
  by_cases h4 : z = 0
  case neg =>
    go_enter Try.func34, Try.ntmps34
    go_wp2
    all_goals
      go_ret
      exact ⟨ret_bool' (by simp [noneB, h4]), k0⟩
  subst h4
  go_enter Try.func34, Try.ntmps34
  go_wp2
  all_goals
    go_ret
    exact ⟨ret_bool' (by simp [noneB]), k0⟩

set_option maxHeartbeats 400000 in
theorem l7Now_any (t : Int) (w : World) :
    Calls Try.prog 36 #[.int .i64 t] w fun e w' => e = .returned (.bool (inB t 0 20000)) ∧ w = w' := by
  go_enter Try.func36, Try.ntmps36
  go_wp2_with (go_at_call 29; refine (l1In_any _ _ _ _).mono ?_; rintro e w1 ⟨rfl, rfl⟩)
  go_ret
  exact ⟨rfl, rfl⟩

theorem spCallOk_four (a b c k x y z : Int) (w : World) :
    Calls Try.prog 33 #[.agg #[.int .i64 a, .int .i64 b, .int .i64 c], .agg #[.int .i64 k, .int .i64 x, .int .i64 y, .int .i64 z]] w fun e w' => e = .returned (.bool (callB a b c ⟨k, x, y, z⟩)) ∧ Below w.heap.size w w' :=
  spCallOk_any a b c ⟨k, x, y, z⟩ w

set_option maxRecDepth 100000 in
set_option maxHeartbeats 4000000 in
theorem spHandOk_any (a b c : Int) (h : Hd) (w : World) :
    Calls Try.prog 14 #[.agg #[.int .i64 a, .int .i64 b, .int .i64 c], hdV h] w fun e w' => e = .returned (.bool (handB a b c h)) ∧ Below w.heap.size w w' := by
  obtain ⟨po, ⟨k, x, y, z⟩, ti, wh, ha, cn, be, re, ou⟩ := h
  have k0 := ((Below.refl w.heap.size w).alloc (Nat.le_refl _) (.cells #[.int .i64 a, .int .i64 b, .int .i64 c] 34)).alloc (by simp) (.cells #[.int .i64 po, .int .i64 k, .int .i64 x, .int .i64 y, .int .i64 z, .int .i64 ti, .int .i64 wh, .bool ha, .int .i64 cn, .int .i64 be, .int .i64 re, .int .i64 ou] 43)
  have kk := Below.refl ((w.alloc (.cells #[.int .i64 a, .int .i64 b, .int .i64 c] 34)).alloc (.cells #[.int .i64 po, .int .i64 k, .int .i64 x, .int .i64 y, .int .i64 z, .int .i64 ti, .int .i64 wh, .bool ha, .int .i64 cn, .int .i64 be, .int .i64 re, .int .i64 ou] 43)).heap.size ((w.alloc (.cells #[.int .i64 a, .int .i64 b, .int .i64 c] 34)).alloc (.cells #[.int .i64 po, .int .i64 k, .int .i64 x, .int .i64 y, .int .i64 z, .int .i64 ti, .int .i64 wh, .bool ha, .int .i64 cn, .int .i64 be, .int .i64 re, .int .i64 ou] 43))
  cases h1 : planB a b c
  · skip
    rw [show handB a b c ⟨po, ⟨k, x, y, z⟩, ti, wh, ha, cn, be, re, ou⟩ = false by simp [handB, hdNumB, h1]]
    go_enter Try.func14, Try.ntmps14
    go_wp2_with (first
      | (go_at_call 28; refine (spPlanOk_any _ _ _ _).mono ?_; rintro e w1 ⟨rfl, hb⟩; replace kk := kk.trans (hb.mono kk.size); clear hb; (try clear hc hf); obtain ⟨hc, hf⟩ := bcell kk)
      | (go_at_call 33; refine (spCallOk_four _ _ _ _ _ _ _ _).mono ?_; rintro e w1 ⟨rfl, hb⟩; replace kk := kk.trans (hb.mono kk.size); clear hb; (try clear hc hf); obtain ⟨hc, hf⟩ := bcell kk)
      | (go_at_call 34; refine (l7None_four _ _ _ _ _).mono ?_; rintro e w1 ⟨rfl, hb⟩; replace kk := kk.trans (hb.mono kk.size); clear hb; (try clear hc hf); obtain ⟨hc, hf⟩ := bcell kk)
      | (go_at_call 29; refine (l1In_any _ _ _ _).mono ?_; rintro e w' ⟨rfl, rfl⟩)
      | (go_at_call 35; refine (l1Time_any _ _).mono ?_; rintro e w' ⟨rfl, rfl⟩)
      | (go_at_call 36; refine (l7Now_any _ _).mono ?_; rintro e w' ⟨rfl, rfl⟩))
    go_ret
    exact ⟨ret_bool' (by simp), k0.trans (kk.mono k0.size)⟩
  obtain ⟨⟨b2, b3⟩, ⟨b5, b6⟩, b1, b4⟩ := planB_iff.1 h1
  cases h2 : inB po 0 18
  · skip
    rw [show handB a b c ⟨po, ⟨k, x, y, z⟩, ti, wh, ha, cn, be, re, ou⟩ = false by simp [handB, hdNumB, h1, h2]]
    go_enter Try.func14, Try.ntmps14
    go_wp2_with (first
      | (go_at_call 28; refine (spPlanOk_any _ _ _ _).mono ?_; rintro e w1 ⟨rfl, hb⟩; replace kk := kk.trans (hb.mono kk.size); clear hb; (try clear hc hf); obtain ⟨hc, hf⟩ := bcell kk)
      | (go_at_call 33; refine (spCallOk_four _ _ _ _ _ _ _ _).mono ?_; rintro e w1 ⟨rfl, hb⟩; replace kk := kk.trans (hb.mono kk.size); clear hb; (try clear hc hf); obtain ⟨hc, hf⟩ := bcell kk)
      | (go_at_call 34; refine (l7None_four _ _ _ _ _).mono ?_; rintro e w1 ⟨rfl, hb⟩; replace kk := kk.trans (hb.mono kk.size); clear hb; (try clear hc hf); obtain ⟨hc, hf⟩ := bcell kk)
      | (go_at_call 29; refine (l1In_any _ _ _ _).mono ?_; rintro e w' ⟨rfl, rfl⟩)
      | (go_at_call 35; refine (l1Time_any _ _).mono ?_; rintro e w' ⟨rfl, rfl⟩)
      | (go_at_call 36; refine (l7Now_any _ _).mono ?_; rintro e w' ⟨rfl, rfl⟩))
    go_ret
    exact ⟨ret_bool' (by simp), k0.trans (kk.mono k0.size)⟩
  cases h3 : callB a b c ⟨k, x, y, z⟩
  case true =>
    cases h5 : inB ti (-1) (c - 1)
    · skip
      rw [show handB a b c ⟨po, ⟨k, x, y, z⟩, ti, wh, ha, cn, be, re, ou⟩ = false by simp [handB, hdNumB, h1, h2, h3, h5]]
      go_enter Try.func14, Try.ntmps14
      go_wp2_with (first
        | (go_at_call 28; refine (spPlanOk_any _ _ _ _).mono ?_; rintro e w1 ⟨rfl, hb⟩; replace kk := kk.trans (hb.mono kk.size); clear hb; (try clear hc hf); obtain ⟨hc, hf⟩ := bcell kk)
        | (go_at_call 33; refine (spCallOk_four _ _ _ _ _ _ _ _).mono ?_; rintro e w1 ⟨rfl, hb⟩; replace kk := kk.trans (hb.mono kk.size); clear hb; (try clear hc hf); obtain ⟨hc, hf⟩ := bcell kk)
        | (go_at_call 34; refine (l7None_four _ _ _ _ _).mono ?_; rintro e w1 ⟨rfl, hb⟩; replace kk := kk.trans (hb.mono kk.size); clear hb; (try clear hc hf); obtain ⟨hc, hf⟩ := bcell kk)
        | (go_at_call 29; refine (l1In_any _ _ _ _).mono ?_; rintro e w' ⟨rfl, rfl⟩)
        | (go_at_call 35; refine (l1Time_any _ _).mono ?_; rintro e w' ⟨rfl, rfl⟩)
        | (go_at_call 36; refine (l7Now_any _ _).mono ?_; rintro e w' ⟨rfl, rfl⟩))
      go_ret
      exact ⟨ret_bool' (by simp), k0.trans (kk.mono k0.size)⟩
    cases h6 : inB wh 0 1000000000
    · skip
      rw [show handB a b c ⟨po, ⟨k, x, y, z⟩, ti, wh, ha, cn, be, re, ou⟩ = false by simp [handB, hdNumB, h1, h2, h3, h5, h6]]
      go_enter Try.func14, Try.ntmps14
      go_wp2_with (first
        | (go_at_call 28; refine (spPlanOk_any _ _ _ _).mono ?_; rintro e w1 ⟨rfl, hb⟩; replace kk := kk.trans (hb.mono kk.size); clear hb; (try clear hc hf); obtain ⟨hc, hf⟩ := bcell kk)
        | (go_at_call 33; refine (spCallOk_four _ _ _ _ _ _ _ _).mono ?_; rintro e w1 ⟨rfl, hb⟩; replace kk := kk.trans (hb.mono kk.size); clear hb; (try clear hc hf); obtain ⟨hc, hf⟩ := bcell kk)
        | (go_at_call 34; refine (l7None_four _ _ _ _ _).mono ?_; rintro e w1 ⟨rfl, hb⟩; replace kk := kk.trans (hb.mono kk.size); clear hb; (try clear hc hf); obtain ⟨hc, hf⟩ := bcell kk)
        | (go_at_call 29; refine (l1In_any _ _ _ _).mono ?_; rintro e w' ⟨rfl, rfl⟩)
        | (go_at_call 35; refine (l1Time_any _ _).mono ?_; rintro e w' ⟨rfl, rfl⟩)
        | (go_at_call 36; refine (l7Now_any _ _).mono ?_; rintro e w' ⟨rfl, rfl⟩))
      go_ret
      exact ⟨ret_bool' (by simp), k0.trans (kk.mono k0.size)⟩
    cases h7 : inB cn 0 1000
    · skip
      rw [show handB a b c ⟨po, ⟨k, x, y, z⟩, ti, wh, ha, cn, be, re, ou⟩ = false by simp [handB, hdNumB, h1, h2, h3, h5, h6, h7]]
      go_enter Try.func14, Try.ntmps14
      go_wp2_with (first
        | (go_at_call 28; refine (spPlanOk_any _ _ _ _).mono ?_; rintro e w1 ⟨rfl, hb⟩; replace kk := kk.trans (hb.mono kk.size); clear hb; (try clear hc hf); obtain ⟨hc, hf⟩ := bcell kk)
        | (go_at_call 33; refine (spCallOk_four _ _ _ _ _ _ _ _).mono ?_; rintro e w1 ⟨rfl, hb⟩; replace kk := kk.trans (hb.mono kk.size); clear hb; (try clear hc hf); obtain ⟨hc, hf⟩ := bcell kk)
        | (go_at_call 34; refine (l7None_four _ _ _ _ _).mono ?_; rintro e w1 ⟨rfl, hb⟩; replace kk := kk.trans (hb.mono kk.size); clear hb; (try clear hc hf); obtain ⟨hc, hf⟩ := bcell kk)
        | (go_at_call 29; refine (l1In_any _ _ _ _).mono ?_; rintro e w' ⟨rfl, rfl⟩)
        | (go_at_call 35; refine (l1Time_any _ _).mono ?_; rintro e w' ⟨rfl, rfl⟩)
        | (go_at_call 36; refine (l7Now_any _ _).mono ?_; rintro e w' ⟨rfl, rfl⟩))
      go_ret
      exact ⟨ret_bool' (by simp), k0.trans (kk.mono k0.size)⟩
    cases h8 : inB be 0 20000
    · skip
      rw [show handB a b c ⟨po, ⟨k, x, y, z⟩, ti, wh, ha, cn, be, re, ou⟩ = false by simp [handB, hdNumB, h1, h2, h3, h5, h6, h7, h8]]
      go_enter Try.func14, Try.ntmps14
      go_wp2_with (first
        | (go_at_call 28; refine (spPlanOk_any _ _ _ _).mono ?_; rintro e w1 ⟨rfl, hb⟩; replace kk := kk.trans (hb.mono kk.size); clear hb; (try clear hc hf); obtain ⟨hc, hf⟩ := bcell kk)
        | (go_at_call 33; refine (spCallOk_four _ _ _ _ _ _ _ _).mono ?_; rintro e w1 ⟨rfl, hb⟩; replace kk := kk.trans (hb.mono kk.size); clear hb; (try clear hc hf); obtain ⟨hc, hf⟩ := bcell kk)
        | (go_at_call 34; refine (l7None_four _ _ _ _ _).mono ?_; rintro e w1 ⟨rfl, hb⟩; replace kk := kk.trans (hb.mono kk.size); clear hb; (try clear hc hf); obtain ⟨hc, hf⟩ := bcell kk)
        | (go_at_call 29; refine (l1In_any _ _ _ _).mono ?_; rintro e w' ⟨rfl, rfl⟩)
        | (go_at_call 35; refine (l1Time_any _ _).mono ?_; rintro e w' ⟨rfl, rfl⟩)
        | (go_at_call 36; refine (l7Now_any _ _).mono ?_; rintro e w' ⟨rfl, rfl⟩))
      go_ret
      exact ⟨ret_bool' (by simp), k0.trans (kk.mono k0.size)⟩
    cases h9 : inB re 0 5
    · skip
      rw [show handB a b c ⟨po, ⟨k, x, y, z⟩, ti, wh, ha, cn, be, re, ou⟩ = false by simp [handB, hdNumB, h1, h2, h3, h5, h6, h7, h8, h9]]
      go_enter Try.func14, Try.ntmps14
      go_wp2_with (first
        | (go_at_call 28; refine (spPlanOk_any _ _ _ _).mono ?_; rintro e w1 ⟨rfl, hb⟩; replace kk := kk.trans (hb.mono kk.size); clear hb; (try clear hc hf); obtain ⟨hc, hf⟩ := bcell kk)
        | (go_at_call 33; refine (spCallOk_four _ _ _ _ _ _ _ _).mono ?_; rintro e w1 ⟨rfl, hb⟩; replace kk := kk.trans (hb.mono kk.size); clear hb; (try clear hc hf); obtain ⟨hc, hf⟩ := bcell kk)
        | (go_at_call 34; refine (l7None_four _ _ _ _ _).mono ?_; rintro e w1 ⟨rfl, hb⟩; replace kk := kk.trans (hb.mono kk.size); clear hb; (try clear hc hf); obtain ⟨hc, hf⟩ := bcell kk)
        | (go_at_call 29; refine (l1In_any _ _ _ _).mono ?_; rintro e w' ⟨rfl, rfl⟩)
        | (go_at_call 35; refine (l1Time_any _ _).mono ?_; rintro e w' ⟨rfl, rfl⟩)
        | (go_at_call 36; refine (l7Now_any _ _).mono ?_; rintro e w' ⟨rfl, rfl⟩))
      go_ret
      exact ⟨ret_bool' (by simp), k0.trans (kk.mono k0.size)⟩
    cases h10 : inB ou 0 1000000000
    · skip
      rw [show handB a b c ⟨po, ⟨k, x, y, z⟩, ti, wh, ha, cn, be, re, ou⟩ = false by simp [handB, hdNumB, h1, h2, h3, h5, h6, h7, h8, h9, h10]]
      go_enter Try.func14, Try.ntmps14
      go_wp2_with (first
        | (go_at_call 28; refine (spPlanOk_any _ _ _ _).mono ?_; rintro e w1 ⟨rfl, hb⟩; replace kk := kk.trans (hb.mono kk.size); clear hb; (try clear hc hf); obtain ⟨hc, hf⟩ := bcell kk)
        | (go_at_call 33; refine (spCallOk_four _ _ _ _ _ _ _ _).mono ?_; rintro e w1 ⟨rfl, hb⟩; replace kk := kk.trans (hb.mono kk.size); clear hb; (try clear hc hf); obtain ⟨hc, hf⟩ := bcell kk)
        | (go_at_call 34; refine (l7None_four _ _ _ _ _).mono ?_; rintro e w1 ⟨rfl, hb⟩; replace kk := kk.trans (hb.mono kk.size); clear hb; (try clear hc hf); obtain ⟨hc, hf⟩ := bcell kk)
        | (go_at_call 29; refine (l1In_any _ _ _ _).mono ?_; rintro e w' ⟨rfl, rfl⟩)
        | (go_at_call 35; refine (l1Time_any _ _).mono ?_; rintro e w' ⟨rfl, rfl⟩)
        | (go_at_call 36; refine (l7Now_any _ _).mono ?_; rintro e w' ⟨rfl, rfl⟩))
      go_ret
      exact ⟨ret_bool' (by simp), k0.trans (kk.mono k0.size)⟩
    rw [show handB a b c ⟨po, ⟨k, x, y, z⟩, ti, wh, ha, cn, be, re, ou⟩ = true by simp [handB, hdNumB, h1, h2, h3, h5, h6, h7, h8, h9, h10]]
    go_enter Try.func14, Try.ntmps14
    go_wp2_with (first
      | (go_at_call 28; refine (spPlanOk_any _ _ _ _).mono ?_; rintro e w1 ⟨rfl, hb⟩; replace kk := kk.trans (hb.mono kk.size); clear hb; (try clear hc hf); obtain ⟨hc, hf⟩ := bcell kk)
      | (go_at_call 33; refine (spCallOk_four _ _ _ _ _ _ _ _).mono ?_; rintro e w1 ⟨rfl, hb⟩; replace kk := kk.trans (hb.mono kk.size); clear hb; (try clear hc hf); obtain ⟨hc, hf⟩ := bcell kk)
      | (go_at_call 34; refine (l7None_four _ _ _ _ _).mono ?_; rintro e w1 ⟨rfl, hb⟩; replace kk := kk.trans (hb.mono kk.size); clear hb; (try clear hc hf); obtain ⟨hc, hf⟩ := bcell kk)
      | (go_at_call 29; refine (l1In_any _ _ _ _).mono ?_; rintro e w' ⟨rfl, rfl⟩)
      | (go_at_call 35; refine (l1Time_any _ _).mono ?_; rintro e w' ⟨rfl, rfl⟩)
      | (go_at_call 36; refine (l7Now_any _ _).mono ?_; rintro e w' ⟨rfl, rfl⟩))
    go_ret
    exact ⟨ret_bool' (by simp), k0.trans (kk.mono k0.size)⟩
  by_cases h4 : po = 0
  case neg =>
    have h4b : (po == 0) = false := by simpa using h4
    rw [show handB a b c ⟨po, ⟨k, x, y, z⟩, ti, wh, ha, cn, be, re, ou⟩ = false by simp [handB, hdNumB, h1, h2, h3, h4]]
    go_enter Try.func14, Try.ntmps14
    go_wp2_with (first
      | (go_at_call 28; refine (spPlanOk_any _ _ _ _).mono ?_; rintro e w1 ⟨rfl, hb⟩; replace kk := kk.trans (hb.mono kk.size); clear hb; (try clear hc hf); obtain ⟨hc, hf⟩ := bcell kk)
      | (go_at_call 33; refine (spCallOk_four _ _ _ _ _ _ _ _).mono ?_; rintro e w1 ⟨rfl, hb⟩; replace kk := kk.trans (hb.mono kk.size); clear hb; (try clear hc hf); obtain ⟨hc, hf⟩ := bcell kk)
      | (go_at_call 34; refine (l7None_four _ _ _ _ _).mono ?_; rintro e w1 ⟨rfl, hb⟩; replace kk := kk.trans (hb.mono kk.size); clear hb; (try clear hc hf); obtain ⟨hc, hf⟩ := bcell kk)
      | (go_at_call 29; refine (l1In_any _ _ _ _).mono ?_; rintro e w' ⟨rfl, rfl⟩)
      | (go_at_call 35; refine (l1Time_any _ _).mono ?_; rintro e w' ⟨rfl, rfl⟩)
      | (go_at_call 36; refine (l7Now_any _ _).mono ?_; rintro e w' ⟨rfl, rfl⟩))
    go_ret
    exact ⟨ret_bool' (by simp), k0.trans (kk.mono k0.size)⟩
  subst h4
  cases h4 : noneB ⟨k, x, y, z⟩
  · skip
    rw [show handB a b c ⟨0, ⟨k, x, y, z⟩, ti, wh, ha, cn, be, re, ou⟩ = false by simp [handB, hdNumB, h1, h2, h3, h4]]
    go_enter Try.func14, Try.ntmps14
    go_wp2_with (first
      | (go_at_call 28; refine (spPlanOk_any _ _ _ _).mono ?_; rintro e w1 ⟨rfl, hb⟩; replace kk := kk.trans (hb.mono kk.size); clear hb; (try clear hc hf); obtain ⟨hc, hf⟩ := bcell kk)
      | (go_at_call 33; refine (spCallOk_four _ _ _ _ _ _ _ _).mono ?_; rintro e w1 ⟨rfl, hb⟩; replace kk := kk.trans (hb.mono kk.size); clear hb; (try clear hc hf); obtain ⟨hc, hf⟩ := bcell kk)
      | (go_at_call 34; refine (l7None_four _ _ _ _ _).mono ?_; rintro e w1 ⟨rfl, hb⟩; replace kk := kk.trans (hb.mono kk.size); clear hb; (try clear hc hf); obtain ⟨hc, hf⟩ := bcell kk)
      | (go_at_call 29; refine (l1In_any _ _ _ _).mono ?_; rintro e w' ⟨rfl, rfl⟩)
      | (go_at_call 35; refine (l1Time_any _ _).mono ?_; rintro e w' ⟨rfl, rfl⟩)
      | (go_at_call 36; refine (l7Now_any _ _).mono ?_; rintro e w' ⟨rfl, rfl⟩))
    go_ret
    exact ⟨ret_bool' (by simp), k0.trans (kk.mono k0.size)⟩
  cases h5 : inB ti (-1) (c - 1)
  · skip
    rw [show handB a b c ⟨0, ⟨k, x, y, z⟩, ti, wh, ha, cn, be, re, ou⟩ = false by simp [handB, hdNumB, h1, h2, h3, h4, h5]]
    go_enter Try.func14, Try.ntmps14
    go_wp2_with (first
      | (go_at_call 28; refine (spPlanOk_any _ _ _ _).mono ?_; rintro e w1 ⟨rfl, hb⟩; replace kk := kk.trans (hb.mono kk.size); clear hb; (try clear hc hf); obtain ⟨hc, hf⟩ := bcell kk)
      | (go_at_call 33; refine (spCallOk_four _ _ _ _ _ _ _ _).mono ?_; rintro e w1 ⟨rfl, hb⟩; replace kk := kk.trans (hb.mono kk.size); clear hb; (try clear hc hf); obtain ⟨hc, hf⟩ := bcell kk)
      | (go_at_call 34; refine (l7None_four _ _ _ _ _).mono ?_; rintro e w1 ⟨rfl, hb⟩; replace kk := kk.trans (hb.mono kk.size); clear hb; (try clear hc hf); obtain ⟨hc, hf⟩ := bcell kk)
      | (go_at_call 29; refine (l1In_any _ _ _ _).mono ?_; rintro e w' ⟨rfl, rfl⟩)
      | (go_at_call 35; refine (l1Time_any _ _).mono ?_; rintro e w' ⟨rfl, rfl⟩)
      | (go_at_call 36; refine (l7Now_any _ _).mono ?_; rintro e w' ⟨rfl, rfl⟩))
    go_ret
    exact ⟨ret_bool' (by simp), k0.trans (kk.mono k0.size)⟩
  cases h6 : inB wh 0 1000000000
  · skip
    rw [show handB a b c ⟨0, ⟨k, x, y, z⟩, ti, wh, ha, cn, be, re, ou⟩ = false by simp [handB, hdNumB, h1, h2, h3, h4, h5, h6]]
    go_enter Try.func14, Try.ntmps14
    go_wp2_with (first
      | (go_at_call 28; refine (spPlanOk_any _ _ _ _).mono ?_; rintro e w1 ⟨rfl, hb⟩; replace kk := kk.trans (hb.mono kk.size); clear hb; (try clear hc hf); obtain ⟨hc, hf⟩ := bcell kk)
      | (go_at_call 33; refine (spCallOk_four _ _ _ _ _ _ _ _).mono ?_; rintro e w1 ⟨rfl, hb⟩; replace kk := kk.trans (hb.mono kk.size); clear hb; (try clear hc hf); obtain ⟨hc, hf⟩ := bcell kk)
      | (go_at_call 34; refine (l7None_four _ _ _ _ _).mono ?_; rintro e w1 ⟨rfl, hb⟩; replace kk := kk.trans (hb.mono kk.size); clear hb; (try clear hc hf); obtain ⟨hc, hf⟩ := bcell kk)
      | (go_at_call 29; refine (l1In_any _ _ _ _).mono ?_; rintro e w' ⟨rfl, rfl⟩)
      | (go_at_call 35; refine (l1Time_any _ _).mono ?_; rintro e w' ⟨rfl, rfl⟩)
      | (go_at_call 36; refine (l7Now_any _ _).mono ?_; rintro e w' ⟨rfl, rfl⟩))
    go_ret
    exact ⟨ret_bool' (by simp), k0.trans (kk.mono k0.size)⟩
  cases h7 : inB cn 0 1000
  · skip
    rw [show handB a b c ⟨0, ⟨k, x, y, z⟩, ti, wh, ha, cn, be, re, ou⟩ = false by simp [handB, hdNumB, h1, h2, h3, h4, h5, h6, h7]]
    go_enter Try.func14, Try.ntmps14
    go_wp2_with (first
      | (go_at_call 28; refine (spPlanOk_any _ _ _ _).mono ?_; rintro e w1 ⟨rfl, hb⟩; replace kk := kk.trans (hb.mono kk.size); clear hb; (try clear hc hf); obtain ⟨hc, hf⟩ := bcell kk)
      | (go_at_call 33; refine (spCallOk_four _ _ _ _ _ _ _ _).mono ?_; rintro e w1 ⟨rfl, hb⟩; replace kk := kk.trans (hb.mono kk.size); clear hb; (try clear hc hf); obtain ⟨hc, hf⟩ := bcell kk)
      | (go_at_call 34; refine (l7None_four _ _ _ _ _).mono ?_; rintro e w1 ⟨rfl, hb⟩; replace kk := kk.trans (hb.mono kk.size); clear hb; (try clear hc hf); obtain ⟨hc, hf⟩ := bcell kk)
      | (go_at_call 29; refine (l1In_any _ _ _ _).mono ?_; rintro e w' ⟨rfl, rfl⟩)
      | (go_at_call 35; refine (l1Time_any _ _).mono ?_; rintro e w' ⟨rfl, rfl⟩)
      | (go_at_call 36; refine (l7Now_any _ _).mono ?_; rintro e w' ⟨rfl, rfl⟩))
    go_ret
    exact ⟨ret_bool' (by simp), k0.trans (kk.mono k0.size)⟩
  cases h8 : inB be 0 20000
  · skip
    rw [show handB a b c ⟨0, ⟨k, x, y, z⟩, ti, wh, ha, cn, be, re, ou⟩ = false by simp [handB, hdNumB, h1, h2, h3, h4, h5, h6, h7, h8]]
    go_enter Try.func14, Try.ntmps14
    go_wp2_with (first
      | (go_at_call 28; refine (spPlanOk_any _ _ _ _).mono ?_; rintro e w1 ⟨rfl, hb⟩; replace kk := kk.trans (hb.mono kk.size); clear hb; (try clear hc hf); obtain ⟨hc, hf⟩ := bcell kk)
      | (go_at_call 33; refine (spCallOk_four _ _ _ _ _ _ _ _).mono ?_; rintro e w1 ⟨rfl, hb⟩; replace kk := kk.trans (hb.mono kk.size); clear hb; (try clear hc hf); obtain ⟨hc, hf⟩ := bcell kk)
      | (go_at_call 34; refine (l7None_four _ _ _ _ _).mono ?_; rintro e w1 ⟨rfl, hb⟩; replace kk := kk.trans (hb.mono kk.size); clear hb; (try clear hc hf); obtain ⟨hc, hf⟩ := bcell kk)
      | (go_at_call 29; refine (l1In_any _ _ _ _).mono ?_; rintro e w' ⟨rfl, rfl⟩)
      | (go_at_call 35; refine (l1Time_any _ _).mono ?_; rintro e w' ⟨rfl, rfl⟩)
      | (go_at_call 36; refine (l7Now_any _ _).mono ?_; rintro e w' ⟨rfl, rfl⟩))
    go_ret
    exact ⟨ret_bool' (by simp), k0.trans (kk.mono k0.size)⟩
  cases h9 : inB re 0 5
  · skip
    rw [show handB a b c ⟨0, ⟨k, x, y, z⟩, ti, wh, ha, cn, be, re, ou⟩ = false by simp [handB, hdNumB, h1, h2, h3, h4, h5, h6, h7, h8, h9]]
    go_enter Try.func14, Try.ntmps14
    go_wp2_with (first
      | (go_at_call 28; refine (spPlanOk_any _ _ _ _).mono ?_; rintro e w1 ⟨rfl, hb⟩; replace kk := kk.trans (hb.mono kk.size); clear hb; (try clear hc hf); obtain ⟨hc, hf⟩ := bcell kk)
      | (go_at_call 33; refine (spCallOk_four _ _ _ _ _ _ _ _).mono ?_; rintro e w1 ⟨rfl, hb⟩; replace kk := kk.trans (hb.mono kk.size); clear hb; (try clear hc hf); obtain ⟨hc, hf⟩ := bcell kk)
      | (go_at_call 34; refine (l7None_four _ _ _ _ _).mono ?_; rintro e w1 ⟨rfl, hb⟩; replace kk := kk.trans (hb.mono kk.size); clear hb; (try clear hc hf); obtain ⟨hc, hf⟩ := bcell kk)
      | (go_at_call 29; refine (l1In_any _ _ _ _).mono ?_; rintro e w' ⟨rfl, rfl⟩)
      | (go_at_call 35; refine (l1Time_any _ _).mono ?_; rintro e w' ⟨rfl, rfl⟩)
      | (go_at_call 36; refine (l7Now_any _ _).mono ?_; rintro e w' ⟨rfl, rfl⟩))
    go_ret
    exact ⟨ret_bool' (by simp), k0.trans (kk.mono k0.size)⟩
  cases h10 : inB ou 0 1000000000
  · skip
    rw [show handB a b c ⟨0, ⟨k, x, y, z⟩, ti, wh, ha, cn, be, re, ou⟩ = false by simp [handB, hdNumB, h1, h2, h3, h4, h5, h6, h7, h8, h9, h10]]
    go_enter Try.func14, Try.ntmps14
    go_wp2_with (first
      | (go_at_call 28; refine (spPlanOk_any _ _ _ _).mono ?_; rintro e w1 ⟨rfl, hb⟩; replace kk := kk.trans (hb.mono kk.size); clear hb; (try clear hc hf); obtain ⟨hc, hf⟩ := bcell kk)
      | (go_at_call 33; refine (spCallOk_four _ _ _ _ _ _ _ _).mono ?_; rintro e w1 ⟨rfl, hb⟩; replace kk := kk.trans (hb.mono kk.size); clear hb; (try clear hc hf); obtain ⟨hc, hf⟩ := bcell kk)
      | (go_at_call 34; refine (l7None_four _ _ _ _ _).mono ?_; rintro e w1 ⟨rfl, hb⟩; replace kk := kk.trans (hb.mono kk.size); clear hb; (try clear hc hf); obtain ⟨hc, hf⟩ := bcell kk)
      | (go_at_call 29; refine (l1In_any _ _ _ _).mono ?_; rintro e w' ⟨rfl, rfl⟩)
      | (go_at_call 35; refine (l1Time_any _ _).mono ?_; rintro e w' ⟨rfl, rfl⟩)
      | (go_at_call 36; refine (l7Now_any _ _).mono ?_; rintro e w' ⟨rfl, rfl⟩))
    go_ret
    exact ⟨ret_bool' (by simp), k0.trans (kk.mono k0.size)⟩
  rw [show handB a b c ⟨0, ⟨k, x, y, z⟩, ti, wh, ha, cn, be, re, ou⟩ = true by simp [handB, hdNumB, h1, h2, h3, h4, h5, h6, h7, h8, h9, h10]]
  go_enter Try.func14, Try.ntmps14
  go_wp2_with (first
    | (go_at_call 28; refine (spPlanOk_any _ _ _ _).mono ?_; rintro e w1 ⟨rfl, hb⟩; replace kk := kk.trans (hb.mono kk.size); clear hb; (try clear hc hf); obtain ⟨hc, hf⟩ := bcell kk)
    | (go_at_call 33; refine (spCallOk_four _ _ _ _ _ _ _ _).mono ?_; rintro e w1 ⟨rfl, hb⟩; replace kk := kk.trans (hb.mono kk.size); clear hb; (try clear hc hf); obtain ⟨hc, hf⟩ := bcell kk)
    | (go_at_call 34; refine (l7None_four _ _ _ _ _).mono ?_; rintro e w1 ⟨rfl, hb⟩; replace kk := kk.trans (hb.mono kk.size); clear hb; (try clear hc hf); obtain ⟨hc, hf⟩ := bcell kk)
    | (go_at_call 29; refine (l1In_any _ _ _ _).mono ?_; rintro e w' ⟨rfl, rfl⟩)
    | (go_at_call 35; refine (l1Time_any _ _).mono ?_; rintro e w' ⟨rfl, rfl⟩)
    | (go_at_call 36; refine (l7Now_any _ _).mono ?_; rintro e w' ⟨rfl, rfl⟩))
  go_ret
  exact ⟨ret_bool' (by simp), k0.trans (kk.mono k0.size)⟩

end Go.Proofs.Ytcfkginbkammoaa

/-
  Who rests (spec, chapter 7).
-/
namespace Go.Proofs.Ytcfkginbkammoaa
open Go.RowKit Go.Joins
set_option linter.unusedVariables false

/-- a block of twelve cells: what they hold, that they may be written -/
theorem twelve {w : World} {B : Nat} {x0 x1 x2 x3 x4 x5 x6 x7 x8 x9 x10 x11 : Value} {t : TypeId} (h0 : w.heap[B]? = some (.cells #[x0, x1, x2, x3, x4, x5, x6, x7, x8, x9, x10, x11] t (0, 0))) : w.cell? ⟨B, 0, none⟩ = some x0 ∧ w.cell? ⟨B, 1, none⟩ = some x1 ∧ w.cell? ⟨B, 2, none⟩ = some x2 ∧ w.cell? ⟨B, 3, none⟩ = some x3 ∧ w.cell? ⟨B, 4, none⟩ = some x4 ∧ w.cell? ⟨B, 5, none⟩ = some x5 ∧ w.cell? ⟨B, 6, none⟩ = some x6 ∧ w.cell? ⟨B, 7, none⟩ = some x7 ∧ w.cell? ⟨B, 8, none⟩ = some x8 ∧ w.cell? ⟨B, 9, none⟩ = some x9 ∧ w.cell? ⟨B, 10, none⟩ = some x10 ∧ w.cell? ⟨B, 11, none⟩ = some x11 ∧ w.frozen? ⟨B, 0, none⟩ = false ∧ w.frozen? ⟨B, 1, none⟩ = false ∧ w.frozen? ⟨B, 2, none⟩ = false ∧ w.frozen? ⟨B, 3, none⟩ = false ∧ w.frozen? ⟨B, 4, none⟩ = false ∧ w.frozen? ⟨B, 5, none⟩ = false ∧ w.frozen? ⟨B, 6, none⟩ = false ∧ w.frozen? ⟨B, 7, none⟩ = false ∧ w.frozen? ⟨B, 8, none⟩ = false ∧ w.frozen? ⟨B, 9, none⟩ = false ∧ w.frozen? ⟨B, 10, none⟩ = false ∧ w.frozen? ⟨B, 11, none⟩ = false :=
  ⟨cell_of_block h0 0, cell_of_block h0 1, cell_of_block h0 2, cell_of_block h0 3, cell_of_block h0 4, cell_of_block h0 5, cell_of_block h0 6, cell_of_block h0 7, cell_of_block h0 8, cell_of_block h0 9, cell_of_block h0 10, cell_of_block h0 11, unfrozen_of_block h0 0, unfrozen_of_block h0 1, unfrozen_of_block h0 2, unfrozen_of_block h0 3, unfrozen_of_block h0 4, unfrozen_of_block h0 5, unfrozen_of_block h0 6, unfrozen_of_block h0 7, unfrozen_of_block h0 8, unfrozen_of_block h0 9, unfrozen_of_block h0 10, unfrozen_of_block h0 11⟩
/-- a hand is stored into a block of its kind -/
theorem set_hand {w : World} {B : Nat} {x0 x1 x2 x3 x4 x5 x6 x7 x8 x9 x10 x11 : Value} {t : TypeId} {h : Hd} (h0 : w.heap[B]? = some (.cells #[x0, x1, x2, x3, x4, x5, x6, x7, x8, x9, x10, x11] t (0, 0))) :
    ((((((((((((w.setCell ⟨B, 0, none⟩ (.int .i64 h.pos)).setCell ⟨B, 1, none⟩ (.int .i64 h.call.code)).setCell ⟨B, 2, none⟩ (.int .i64 h.call.a)).setCell ⟨B, 3, none⟩ (.int .i64 h.call.b)).setCell ⟨B, 4, none⟩ (.int .i64 h.call.c)).setCell ⟨B, 5, none⟩ (.int .i64 h.tim)).setCell ⟨B, 6, none⟩ (.int .i64 h.whe)).setCell ⟨B, 7, none⟩ (.bool h.had)).setCell ⟨B, 8, none⟩ (.int .i64 h.cnt)).setCell ⟨B, 9, none⟩ (.int .i64 h.beg)).setCell ⟨B, 10, none⟩ (.int .i64 h.rep)).setCell ⟨B, 11, none⟩ (.int .i64 h.out)).heap[B]? = some (.cells (hdCells h) t (0, 0)) := by
  have hx := (block_setCell (i := 11) (block_setCell (i := 10) (block_setCell (i := 9) (block_setCell (i := 8) (block_setCell (i := 7) (block_setCell (i := 6) (block_setCell (i := 5) (block_setCell (i := 4) (block_setCell (i := 3) (block_setCell (i := 2) (block_setCell (i := 1) (block_setCell (i := 0) h0 (.int .i64 h.pos)) (.int .i64 h.call.code)) (.int .i64 h.call.a)) (.int .i64 h.call.b)) (.int .i64 h.call.c)) (.int .i64 h.tim)) (.int .i64 h.whe)) (.bool h.had)) (.int .i64 h.cnt)) (.int .i64 h.beg)) (.int .i64 h.rep)) (.int .i64 h.out))
  simp only [List.setIfInBounds_toArray, List.set_cons_zero, List.set_cons_succ] at hx
  exact hx
theorem b_set_hand {W w : World} {n B : Nat} {h : Hd} (hb : Below n W w) (hn : n ≤ B) :
    Below n W ((((((((((((w.setCell ⟨B, 0, none⟩ (.int .i64 h.pos)).setCell ⟨B, 1, none⟩ (.int .i64 h.call.code)).setCell ⟨B, 2, none⟩ (.int .i64 h.call.a)).setCell ⟨B, 3, none⟩ (.int .i64 h.call.b)).setCell ⟨B, 4, none⟩ (.int .i64 h.call.c)).setCell ⟨B, 5, none⟩ (.int .i64 h.tim)).setCell ⟨B, 6, none⟩ (.int .i64 h.whe)).setCell ⟨B, 7, none⟩ (.bool h.had)).setCell ⟨B, 8, none⟩ (.int .i64 h.cnt)).setCell ⟨B, 9, none⟩ (.int .i64 h.beg)).setCell ⟨B, 10, none⟩ (.int .i64 h.rep)).setCell ⟨B, 11, none⟩ (.int .i64 h.out)) :=
  ((((((((((((hb.setCell (p := ⟨B, 0, none⟩) hn (.int .i64 h.pos)).setCell (p := ⟨B, 1, none⟩) hn (.int .i64 h.call.code)).setCell (p := ⟨B, 2, none⟩) hn (.int .i64 h.call.a)).setCell (p := ⟨B, 3, none⟩) hn (.int .i64 h.call.b)).setCell (p := ⟨B, 4, none⟩) hn (.int .i64 h.call.c)).setCell (p := ⟨B, 5, none⟩) hn (.int .i64 h.tim)).setCell (p := ⟨B, 6, none⟩) hn (.int .i64 h.whe)).setCell (p := ⟨B, 7, none⟩) hn (.bool h.had)).setCell (p := ⟨B, 8, none⟩) hn (.int .i64 h.cnt)).setCell (p := ⟨B, 9, none⟩) hn (.int .i64 h.beg)).setCell (p := ⟨B, 10, none⟩) hn (.int .i64 h.rep)).setCell (p := ⟨B, 11, none⟩) hn (.int .i64 h.out))

end Go.Proofs.Ytcfkginbkammoaa
