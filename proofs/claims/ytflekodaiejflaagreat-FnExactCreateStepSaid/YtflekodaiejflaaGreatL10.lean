/-
  Hands (spec, chapter 7): where a worker is.
-/
import Derived.Test.YtflekodaiejflaaGreatL09
import Derived.Test.YtflekodaiejflaaGreatL01
import Derived.Test.YtflekodaiejflaaGreatL00
import Derived.Maps.AppendAt
import Derived.Laws.AppendOwn
import Derived.Test.YtflekodaiejflaaGreatL02
import Derived.Deep.MidRow
namespace Go.Proofs.YtflekodaiejflaaGreat
open Go.RowKit Go.Joins
set_option linter.unusedVariables false
set_option linter.unusedSimpArgs false

/-- a hand's numbers, its call and its flag -/
structure Hd where
  pos : Int
  call : Ca
  tim : Int
  whe : Int
  had : Bool
  cnt : Int
  beg : Int
  rep : Int
  out : Int
abbrev hdCells (h : Hd) : Array Value := #[.int .i64 h.pos, .int .i64 h.call.code, .int .i64 h.call.a, .int .i64 h.call.b, .int .i64 h.call.c, .int .i64 h.tim, .int .i64 h.whe, .bool h.had, .int .i64 h.cnt, .int .i64 h.beg, .int .i64 h.rep, .int .i64 h.out]
abbrev hdV (h : Hd) : Value := .agg #[.int .i64 h.pos, .int .i64 h.call.code, .int .i64 h.call.a, .int .i64 h.call.b, .int .i64 h.call.c, .int .i64 h.tim, .int .i64 h.whe, .bool h.had, .int .i64 h.cnt, .int .i64 h.beg, .int .i64 h.rep, .int .i64 h.out]
/-- no call -/
def noneB (q : Ca) : Bool := q.code == 0 && (q.a == 0 && (q.b == 0 && q.c == 0))
theorem noneB_iff {q : Ca} : noneB q = true ↔ q = ca0 := by
  obtain ⟨k, x, y, z⟩ := q
  simp [noneB, ca0]
/-- its numbers are right -/
def hdNumB (h : Hd) : Bool := inB h.pos 0 18 && (inB h.whe 0 1000000000 && (inB h.cnt 0 1000 && (inB h.beg 0 20000 && (inB h.rep 0 5 && inB h.out 0 1000000000))))
/-- is it a right hand? -/
def handB (a b c : Int) (h : Hd) : Bool := planB a b c && (hdNumB h && (inB h.tim (-1) (c - 1) && (callB a b c h.call || (h.pos == 0 && noneB h.call))))
def newHd : Hd := ⟨0, ca0, -1, 0, false, 0, 0, 0, 0⟩
def restHd (r o : Int) : Hd := ⟨0, ca0, -1, 0, false, 0, 0, r, o⟩

set_option maxRecDepth 100000 in
set_option maxHeartbeats 1000000 in
theorem l7None_four (k x y z : Int) (w : World) :
    Calls Tryz.prog 91 #[.agg #[.int .i64 k, .int .i64 x, .int .i64 y, .int .i64 z]] w fun e w' => e = .returned (.bool (noneB ⟨k, x, y, z⟩)) ∧ Below w.heap.size w w' := by
  have k0 := (Below.refl w.heap.size w).alloc (Nat.le_refl _) (.cells #[.int .i64 k, .int .i64 x, .int .i64 y, .int .i64 z] 37)
  by_cases h1 : k = 0
  case neg =>
    go_enter Tryz.func91, Tryz.ntmps91
    go_wp2
    all_goals
      go_ret
      exact ⟨ret_bool' (by simp [noneB, h1]), k0⟩
  subst h1
  by_cases h2 : x = 0
  case neg =>
    go_enter Tryz.func91, Tryz.ntmps91
    go_wp2
    all_goals
      go_ret
      exact ⟨ret_bool' (by simp [noneB, h2]), k0⟩
  subst h2
  by_cases h3 : y = 0
  case neg =>
    go_enter Tryz.func91, Tryz.ntmps91
    go_wp2
    all_goals
      go_ret
      exact ⟨ret_bool' (by simp [noneB, h3]), k0⟩
  subst h3
  by_cases h4 : z = 0
  case neg =>
    go_enter Tryz.func91, Tryz.ntmps91
    go_wp2
    all_goals
      go_ret
      exact ⟨ret_bool' (by simp [noneB, h4]), k0⟩
  subst h4
  go_enter Tryz.func91, Tryz.ntmps91
  go_wp2
  all_goals
    go_ret
    exact ⟨ret_bool' (by simp [noneB]), k0⟩

set_option maxHeartbeats 400000 in
theorem l7Now_any (t : Int) (w : World) :
    Calls Tryz.prog 93 #[.int .i64 t] w fun e w' => e = .returned (.bool (inB t 0 20000)) ∧ w = w' := by
  go_enter Tryz.func93, Tryz.ntmps93
  go_wp2_with (go_at_call 34; refine (l1In_any _ _ _ _).mono ?_; rintro e w1 ⟨rfl, rfl⟩)
  go_ret
  exact ⟨rfl, rfl⟩

theorem spCallOk_four (a b c k x y z : Int) (w : World) :
    Calls Tryz.prog 90 #[.agg #[.int .i64 a, .int .i64 b, .int .i64 c], .agg #[.int .i64 k, .int .i64 x, .int .i64 y, .int .i64 z]] w fun e w' => e = .returned (.bool (callB a b c ⟨k, x, y, z⟩)) ∧ Below w.heap.size w w' :=
  spCallOk_any a b c ⟨k, x, y, z⟩ w

set_option maxRecDepth 100000 in
set_option maxHeartbeats 4000000 in
theorem spHandOk_any (a b c : Int) (h : Hd) (w : World) :
    Calls Tryz.prog 63 #[.agg #[.int .i64 a, .int .i64 b, .int .i64 c], hdV h] w fun e w' => e = .returned (.bool (handB a b c h)) ∧ Below w.heap.size w w' := by
  obtain ⟨po, ⟨k, x, y, z⟩, ti, wh, ha, cn, be, re, ou⟩ := h
  have k0 := ((Below.refl w.heap.size w).alloc (Nat.le_refl _) (.cells #[.int .i64 a, .int .i64 b, .int .i64 c] 46)).alloc (by simp) (.cells #[.int .i64 po, .int .i64 k, .int .i64 x, .int .i64 y, .int .i64 z, .int .i64 ti, .int .i64 wh, .bool ha, .int .i64 cn, .int .i64 be, .int .i64 re, .int .i64 ou] 39)
  have kk := Below.refl ((w.alloc (.cells #[.int .i64 a, .int .i64 b, .int .i64 c] 46)).alloc (.cells #[.int .i64 po, .int .i64 k, .int .i64 x, .int .i64 y, .int .i64 z, .int .i64 ti, .int .i64 wh, .bool ha, .int .i64 cn, .int .i64 be, .int .i64 re, .int .i64 ou] 39)).heap.size ((w.alloc (.cells #[.int .i64 a, .int .i64 b, .int .i64 c] 46)).alloc (.cells #[.int .i64 po, .int .i64 k, .int .i64 x, .int .i64 y, .int .i64 z, .int .i64 ti, .int .i64 wh, .bool ha, .int .i64 cn, .int .i64 be, .int .i64 re, .int .i64 ou] 39))
  cases h1 : planB a b c
  · skip
    rw [show handB a b c ⟨po, ⟨k, x, y, z⟩, ti, wh, ha, cn, be, re, ou⟩ = false by simp [handB, hdNumB, h1]]
    go_enter Tryz.func63, Tryz.ntmps63
    go_wp2_with (first
      | (go_at_call 86; refine (spPlanOk_any _ _ _ _).mono ?_; rintro e w1 ⟨rfl, hb⟩; replace kk := kk.trans (hb.mono kk.size); clear hb; (try clear hc hf); obtain ⟨hc, hf⟩ := bcell kk)
      | (go_at_call 90; refine (spCallOk_four _ _ _ _ _ _ _ _).mono ?_; rintro e w1 ⟨rfl, hb⟩; replace kk := kk.trans (hb.mono kk.size); clear hb; (try clear hc hf); obtain ⟨hc, hf⟩ := bcell kk)
      | (go_at_call 91; refine (l7None_four _ _ _ _ _).mono ?_; rintro e w1 ⟨rfl, hb⟩; replace kk := kk.trans (hb.mono kk.size); clear hb; (try clear hc hf); obtain ⟨hc, hf⟩ := bcell kk)
      | (go_at_call 34; refine (l1In_any _ _ _ _).mono ?_; rintro e w' ⟨rfl, rfl⟩)
      | (go_at_call 92; refine (l1Time_any _ _).mono ?_; rintro e w' ⟨rfl, rfl⟩)
      | (go_at_call 93; refine (l7Now_any _ _).mono ?_; rintro e w' ⟨rfl, rfl⟩))
    go_ret
    exact ⟨ret_bool' (by simp), k0.trans (kk.mono k0.size)⟩
  obtain ⟨⟨b2, b3⟩, ⟨b5, b6⟩, b1, b4⟩ := planB_iff.1 h1
  cases h2 : inB po 0 18
  · skip
    rw [show handB a b c ⟨po, ⟨k, x, y, z⟩, ti, wh, ha, cn, be, re, ou⟩ = false by simp [handB, hdNumB, h1, h2]]
    go_enter Tryz.func63, Tryz.ntmps63
    go_wp2_with (first
      | (go_at_call 86; refine (spPlanOk_any _ _ _ _).mono ?_; rintro e w1 ⟨rfl, hb⟩; replace kk := kk.trans (hb.mono kk.size); clear hb; (try clear hc hf); obtain ⟨hc, hf⟩ := bcell kk)
      | (go_at_call 90; refine (spCallOk_four _ _ _ _ _ _ _ _).mono ?_; rintro e w1 ⟨rfl, hb⟩; replace kk := kk.trans (hb.mono kk.size); clear hb; (try clear hc hf); obtain ⟨hc, hf⟩ := bcell kk)
      | (go_at_call 91; refine (l7None_four _ _ _ _ _).mono ?_; rintro e w1 ⟨rfl, hb⟩; replace kk := kk.trans (hb.mono kk.size); clear hb; (try clear hc hf); obtain ⟨hc, hf⟩ := bcell kk)
      | (go_at_call 34; refine (l1In_any _ _ _ _).mono ?_; rintro e w' ⟨rfl, rfl⟩)
      | (go_at_call 92; refine (l1Time_any _ _).mono ?_; rintro e w' ⟨rfl, rfl⟩)
      | (go_at_call 93; refine (l7Now_any _ _).mono ?_; rintro e w' ⟨rfl, rfl⟩))
    go_ret
    exact ⟨ret_bool' (by simp), k0.trans (kk.mono k0.size)⟩
  cases h3 : callB a b c ⟨k, x, y, z⟩
  case true =>
    cases h5 : inB ti (-1) (c - 1)
    · skip
      rw [show handB a b c ⟨po, ⟨k, x, y, z⟩, ti, wh, ha, cn, be, re, ou⟩ = false by simp [handB, hdNumB, h1, h2, h3, h5]]
      go_enter Tryz.func63, Tryz.ntmps63
      go_wp2_with (first
        | (go_at_call 86; refine (spPlanOk_any _ _ _ _).mono ?_; rintro e w1 ⟨rfl, hb⟩; replace kk := kk.trans (hb.mono kk.size); clear hb; (try clear hc hf); obtain ⟨hc, hf⟩ := bcell kk)
        | (go_at_call 90; refine (spCallOk_four _ _ _ _ _ _ _ _).mono ?_; rintro e w1 ⟨rfl, hb⟩; replace kk := kk.trans (hb.mono kk.size); clear hb; (try clear hc hf); obtain ⟨hc, hf⟩ := bcell kk)
        | (go_at_call 91; refine (l7None_four _ _ _ _ _).mono ?_; rintro e w1 ⟨rfl, hb⟩; replace kk := kk.trans (hb.mono kk.size); clear hb; (try clear hc hf); obtain ⟨hc, hf⟩ := bcell kk)
        | (go_at_call 34; refine (l1In_any _ _ _ _).mono ?_; rintro e w' ⟨rfl, rfl⟩)
        | (go_at_call 92; refine (l1Time_any _ _).mono ?_; rintro e w' ⟨rfl, rfl⟩)
        | (go_at_call 93; refine (l7Now_any _ _).mono ?_; rintro e w' ⟨rfl, rfl⟩))
      go_ret
      exact ⟨ret_bool' (by simp), k0.trans (kk.mono k0.size)⟩
    cases h6 : inB wh 0 1000000000
    · skip
      rw [show handB a b c ⟨po, ⟨k, x, y, z⟩, ti, wh, ha, cn, be, re, ou⟩ = false by simp [handB, hdNumB, h1, h2, h3, h5, h6]]
      go_enter Tryz.func63, Tryz.ntmps63
      go_wp2_with (first
        | (go_at_call 86; refine (spPlanOk_any _ _ _ _).mono ?_; rintro e w1 ⟨rfl, hb⟩; replace kk := kk.trans (hb.mono kk.size); clear hb; (try clear hc hf); obtain ⟨hc, hf⟩ := bcell kk)
        | (go_at_call 90; refine (spCallOk_four _ _ _ _ _ _ _ _).mono ?_; rintro e w1 ⟨rfl, hb⟩; replace kk := kk.trans (hb.mono kk.size); clear hb; (try clear hc hf); obtain ⟨hc, hf⟩ := bcell kk)
        | (go_at_call 91; refine (l7None_four _ _ _ _ _).mono ?_; rintro e w1 ⟨rfl, hb⟩; replace kk := kk.trans (hb.mono kk.size); clear hb; (try clear hc hf); obtain ⟨hc, hf⟩ := bcell kk)
        | (go_at_call 34; refine (l1In_any _ _ _ _).mono ?_; rintro e w' ⟨rfl, rfl⟩)
        | (go_at_call 92; refine (l1Time_any _ _).mono ?_; rintro e w' ⟨rfl, rfl⟩)
        | (go_at_call 93; refine (l7Now_any _ _).mono ?_; rintro e w' ⟨rfl, rfl⟩))
      go_ret
      exact ⟨ret_bool' (by simp), k0.trans (kk.mono k0.size)⟩
    cases h7 : inB cn 0 1000
    · skip
      rw [show handB a b c ⟨po, ⟨k, x, y, z⟩, ti, wh, ha, cn, be, re, ou⟩ = false by simp [handB, hdNumB, h1, h2, h3, h5, h6, h7]]
      go_enter Tryz.func63, Tryz.ntmps63
      go_wp2_with (first
        | (go_at_call 86; refine (spPlanOk_any _ _ _ _).mono ?_; rintro e w1 ⟨rfl, hb⟩; replace kk := kk.trans (hb.mono kk.size); clear hb; (try clear hc hf); obtain ⟨hc, hf⟩ := bcell kk)
        | (go_at_call 90; refine (spCallOk_four _ _ _ _ _ _ _ _).mono ?_; rintro e w1 ⟨rfl, hb⟩; replace kk := kk.trans (hb.mono kk.size); clear hb; (try clear hc hf); obtain ⟨hc, hf⟩ := bcell kk)
        | (go_at_call 91; refine (l7None_four _ _ _ _ _).mono ?_; rintro e w1 ⟨rfl, hb⟩; replace kk := kk.trans (hb.mono kk.size); clear hb; (try clear hc hf); obtain ⟨hc, hf⟩ := bcell kk)
        | (go_at_call 34; refine (l1In_any _ _ _ _).mono ?_; rintro e w' ⟨rfl, rfl⟩)
        | (go_at_call 92; refine (l1Time_any _ _).mono ?_; rintro e w' ⟨rfl, rfl⟩)
        | (go_at_call 93; refine (l7Now_any _ _).mono ?_; rintro e w' ⟨rfl, rfl⟩))
      go_ret
      exact ⟨ret_bool' (by simp), k0.trans (kk.mono k0.size)⟩
    cases h8 : inB be 0 20000
    · skip
      rw [show handB a b c ⟨po, ⟨k, x, y, z⟩, ti, wh, ha, cn, be, re, ou⟩ = false by simp [handB, hdNumB, h1, h2, h3, h5, h6, h7, h8]]
      go_enter Tryz.func63, Tryz.ntmps63
      go_wp2_with (first
        | (go_at_call 86; refine (spPlanOk_any _ _ _ _).mono ?_; rintro e w1 ⟨rfl, hb⟩; replace kk := kk.trans (hb.mono kk.size); clear hb; (try clear hc hf); obtain ⟨hc, hf⟩ := bcell kk)
        | (go_at_call 90; refine (spCallOk_four _ _ _ _ _ _ _ _).mono ?_; rintro e w1 ⟨rfl, hb⟩; replace kk := kk.trans (hb.mono kk.size); clear hb; (try clear hc hf); obtain ⟨hc, hf⟩ := bcell kk)
        | (go_at_call 91; refine (l7None_four _ _ _ _ _).mono ?_; rintro e w1 ⟨rfl, hb⟩; replace kk := kk.trans (hb.mono kk.size); clear hb; (try clear hc hf); obtain ⟨hc, hf⟩ := bcell kk)
        | (go_at_call 34; refine (l1In_any _ _ _ _).mono ?_; rintro e w' ⟨rfl, rfl⟩)
        | (go_at_call 92; refine (l1Time_any _ _).mono ?_; rintro e w' ⟨rfl, rfl⟩)
        | (go_at_call 93; refine (l7Now_any _ _).mono ?_; rintro e w' ⟨rfl, rfl⟩))
      go_ret
      exact ⟨ret_bool' (by simp), k0.trans (kk.mono k0.size)⟩
    cases h9 : inB re 0 5
    · skip
      rw [show handB a b c ⟨po, ⟨k, x, y, z⟩, ti, wh, ha, cn, be, re, ou⟩ = false by simp [handB, hdNumB, h1, h2, h3, h5, h6, h7, h8, h9]]
      go_enter Tryz.func63, Tryz.ntmps63
      go_wp2_with (first
        | (go_at_call 86; refine (spPlanOk_any _ _ _ _).mono ?_; rintro e w1 ⟨rfl, hb⟩; replace kk := kk.trans (hb.mono kk.size); clear hb; (try clear hc hf); obtain ⟨hc, hf⟩ := bcell kk)
        | (go_at_call 90; refine (spCallOk_four _ _ _ _ _ _ _ _).mono ?_; rintro e w1 ⟨rfl, hb⟩; replace kk := kk.trans (hb.mono kk.size); clear hb; (try clear hc hf); obtain ⟨hc, hf⟩ := bcell kk)
        | (go_at_call 91; refine (l7None_four _ _ _ _ _).mono ?_; rintro e w1 ⟨rfl, hb⟩; replace kk := kk.trans (hb.mono kk.size); clear hb; (try clear hc hf); obtain ⟨hc, hf⟩ := bcell kk)
        | (go_at_call 34; refine (l1In_any _ _ _ _).mono ?_; rintro e w' ⟨rfl, rfl⟩)
        | (go_at_call 92; refine (l1Time_any _ _).mono ?_; rintro e w' ⟨rfl, rfl⟩)
        | (go_at_call 93; refine (l7Now_any _ _).mono ?_; rintro e w' ⟨rfl, rfl⟩))
      go_ret
      exact ⟨ret_bool' (by simp), k0.trans (kk.mono k0.size)⟩
    cases h10 : inB ou 0 1000000000
    · skip
      rw [show handB a b c ⟨po, ⟨k, x, y, z⟩, ti, wh, ha, cn, be, re, ou⟩ = false by simp [handB, hdNumB, h1, h2, h3, h5, h6, h7, h8, h9, h10]]
      go_enter Tryz.func63, Tryz.ntmps63
      go_wp2_with (first
        | (go_at_call 86; refine (spPlanOk_any _ _ _ _).mono ?_; rintro e w1 ⟨rfl, hb⟩; replace kk := kk.trans (hb.mono kk.size); clear hb; (try clear hc hf); obtain ⟨hc, hf⟩ := bcell kk)
        | (go_at_call 90; refine (spCallOk_four _ _ _ _ _ _ _ _).mono ?_; rintro e w1 ⟨rfl, hb⟩; replace kk := kk.trans (hb.mono kk.size); clear hb; (try clear hc hf); obtain ⟨hc, hf⟩ := bcell kk)
        | (go_at_call 91; refine (l7None_four _ _ _ _ _).mono ?_; rintro e w1 ⟨rfl, hb⟩; replace kk := kk.trans (hb.mono kk.size); clear hb; (try clear hc hf); obtain ⟨hc, hf⟩ := bcell kk)
        | (go_at_call 34; refine (l1In_any _ _ _ _).mono ?_; rintro e w' ⟨rfl, rfl⟩)
        | (go_at_call 92; refine (l1Time_any _ _).mono ?_; rintro e w' ⟨rfl, rfl⟩)
        | (go_at_call 93; refine (l7Now_any _ _).mono ?_; rintro e w' ⟨rfl, rfl⟩))
      go_ret
      exact ⟨ret_bool' (by simp), k0.trans (kk.mono k0.size)⟩
    rw [show handB a b c ⟨po, ⟨k, x, y, z⟩, ti, wh, ha, cn, be, re, ou⟩ = true by simp [handB, hdNumB, h1, h2, h3, h5, h6, h7, h8, h9, h10]]
    go_enter Tryz.func63, Tryz.ntmps63
    go_wp2_with (first
      | (go_at_call 86; refine (spPlanOk_any _ _ _ _).mono ?_; rintro e w1 ⟨rfl, hb⟩; replace kk := kk.trans (hb.mono kk.size); clear hb; (try clear hc hf); obtain ⟨hc, hf⟩ := bcell kk)
      | (go_at_call 90; refine (spCallOk_four _ _ _ _ _ _ _ _).mono ?_; rintro e w1 ⟨rfl, hb⟩; replace kk := kk.trans (hb.mono kk.size); clear hb; (try clear hc hf); obtain ⟨hc, hf⟩ := bcell kk)
      | (go_at_call 91; refine (l7None_four _ _ _ _ _).mono ?_; rintro e w1 ⟨rfl, hb⟩; replace kk := kk.trans (hb.mono kk.size); clear hb; (try clear hc hf); obtain ⟨hc, hf⟩ := bcell kk)
      | (go_at_call 34; refine (l1In_any _ _ _ _).mono ?_; rintro e w' ⟨rfl, rfl⟩)
      | (go_at_call 92; refine (l1Time_any _ _).mono ?_; rintro e w' ⟨rfl, rfl⟩)
      | (go_at_call 93; refine (l7Now_any _ _).mono ?_; rintro e w' ⟨rfl, rfl⟩))
    go_ret
    exact ⟨ret_bool' (by simp), k0.trans (kk.mono k0.size)⟩
  by_cases h4 : po = 0
  case neg =>
    have h4b : (po == 0) = false := by simpa using h4
    rw [show handB a b c ⟨po, ⟨k, x, y, z⟩, ti, wh, ha, cn, be, re, ou⟩ = false by simp [handB, hdNumB, h1, h2, h3, h4]]
    go_enter Tryz.func63, Tryz.ntmps63
    go_wp2_with (first
      | (go_at_call 86; refine (spPlanOk_any _ _ _ _).mono ?_; rintro e w1 ⟨rfl, hb⟩; replace kk := kk.trans (hb.mono kk.size); clear hb; (try clear hc hf); obtain ⟨hc, hf⟩ := bcell kk)
      | (go_at_call 90; refine (spCallOk_four _ _ _ _ _ _ _ _).mono ?_; rintro e w1 ⟨rfl, hb⟩; replace kk := kk.trans (hb.mono kk.size); clear hb; (try clear hc hf); obtain ⟨hc, hf⟩ := bcell kk)
      | (go_at_call 91; refine (l7None_four _ _ _ _ _).mono ?_; rintro e w1 ⟨rfl, hb⟩; replace kk := kk.trans (hb.mono kk.size); clear hb; (try clear hc hf); obtain ⟨hc, hf⟩ := bcell kk)
      | (go_at_call 34; refine (l1In_any _ _ _ _).mono ?_; rintro e w' ⟨rfl, rfl⟩)
      | (go_at_call 92; refine (l1Time_any _ _).mono ?_; rintro e w' ⟨rfl, rfl⟩)
      | (go_at_call 93; refine (l7Now_any _ _).mono ?_; rintro e w' ⟨rfl, rfl⟩))
    go_ret
    exact ⟨ret_bool' (by simp), k0.trans (kk.mono k0.size)⟩
  subst h4
  cases h4 : noneB ⟨k, x, y, z⟩
  · skip
    rw [show handB a b c ⟨0, ⟨k, x, y, z⟩, ti, wh, ha, cn, be, re, ou⟩ = false by simp [handB, hdNumB, h1, h2, h3, h4]]
    go_enter Tryz.func63, Tryz.ntmps63
    go_wp2_with (first
      | (go_at_call 86; refine (spPlanOk_any _ _ _ _).mono ?_; rintro e w1 ⟨rfl, hb⟩; replace kk := kk.trans (hb.mono kk.size); clear hb; (try clear hc hf); obtain ⟨hc, hf⟩ := bcell kk)
      | (go_at_call 90; refine (spCallOk_four _ _ _ _ _ _ _ _).mono ?_; rintro e w1 ⟨rfl, hb⟩; replace kk := kk.trans (hb.mono kk.size); clear hb; (try clear hc hf); obtain ⟨hc, hf⟩ := bcell kk)
      | (go_at_call 91; refine (l7None_four _ _ _ _ _).mono ?_; rintro e w1 ⟨rfl, hb⟩; replace kk := kk.trans (hb.mono kk.size); clear hb; (try clear hc hf); obtain ⟨hc, hf⟩ := bcell kk)
      | (go_at_call 34; refine (l1In_any _ _ _ _).mono ?_; rintro e w' ⟨rfl, rfl⟩)
      | (go_at_call 92; refine (l1Time_any _ _).mono ?_; rintro e w' ⟨rfl, rfl⟩)
      | (go_at_call 93; refine (l7Now_any _ _).mono ?_; rintro e w' ⟨rfl, rfl⟩))
    go_ret
    exact ⟨ret_bool' (by simp), k0.trans (kk.mono k0.size)⟩
  cases h5 : inB ti (-1) (c - 1)
  · skip
    rw [show handB a b c ⟨0, ⟨k, x, y, z⟩, ti, wh, ha, cn, be, re, ou⟩ = false by simp [handB, hdNumB, h1, h2, h3, h4, h5]]
    go_enter Tryz.func63, Tryz.ntmps63
    go_wp2_with (first
      | (go_at_call 86; refine (spPlanOk_any _ _ _ _).mono ?_; rintro e w1 ⟨rfl, hb⟩; replace kk := kk.trans (hb.mono kk.size); clear hb; (try clear hc hf); obtain ⟨hc, hf⟩ := bcell kk)
      | (go_at_call 90; refine (spCallOk_four _ _ _ _ _ _ _ _).mono ?_; rintro e w1 ⟨rfl, hb⟩; replace kk := kk.trans (hb.mono kk.size); clear hb; (try clear hc hf); obtain ⟨hc, hf⟩ := bcell kk)
      | (go_at_call 91; refine (l7None_four _ _ _ _ _).mono ?_; rintro e w1 ⟨rfl, hb⟩; replace kk := kk.trans (hb.mono kk.size); clear hb; (try clear hc hf); obtain ⟨hc, hf⟩ := bcell kk)
      | (go_at_call 34; refine (l1In_any _ _ _ _).mono ?_; rintro e w' ⟨rfl, rfl⟩)
      | (go_at_call 92; refine (l1Time_any _ _).mono ?_; rintro e w' ⟨rfl, rfl⟩)
      | (go_at_call 93; refine (l7Now_any _ _).mono ?_; rintro e w' ⟨rfl, rfl⟩))
    go_ret
    exact ⟨ret_bool' (by simp), k0.trans (kk.mono k0.size)⟩
  cases h6 : inB wh 0 1000000000
  · skip
    rw [show handB a b c ⟨0, ⟨k, x, y, z⟩, ti, wh, ha, cn, be, re, ou⟩ = false by simp [handB, hdNumB, h1, h2, h3, h4, h5, h6]]
    go_enter Tryz.func63, Tryz.ntmps63
    go_wp2_with (first
      | (go_at_call 86; refine (spPlanOk_any _ _ _ _).mono ?_; rintro e w1 ⟨rfl, hb⟩; replace kk := kk.trans (hb.mono kk.size); clear hb; (try clear hc hf); obtain ⟨hc, hf⟩ := bcell kk)
      | (go_at_call 90; refine (spCallOk_four _ _ _ _ _ _ _ _).mono ?_; rintro e w1 ⟨rfl, hb⟩; replace kk := kk.trans (hb.mono kk.size); clear hb; (try clear hc hf); obtain ⟨hc, hf⟩ := bcell kk)
      | (go_at_call 91; refine (l7None_four _ _ _ _ _).mono ?_; rintro e w1 ⟨rfl, hb⟩; replace kk := kk.trans (hb.mono kk.size); clear hb; (try clear hc hf); obtain ⟨hc, hf⟩ := bcell kk)
      | (go_at_call 34; refine (l1In_any _ _ _ _).mono ?_; rintro e w' ⟨rfl, rfl⟩)
      | (go_at_call 92; refine (l1Time_any _ _).mono ?_; rintro e w' ⟨rfl, rfl⟩)
      | (go_at_call 93; refine (l7Now_any _ _).mono ?_; rintro e w' ⟨rfl, rfl⟩))
    go_ret
    exact ⟨ret_bool' (by simp), k0.trans (kk.mono k0.size)⟩
  cases h7 : inB cn 0 1000
  · skip
    rw [show handB a b c ⟨0, ⟨k, x, y, z⟩, ti, wh, ha, cn, be, re, ou⟩ = false by simp [handB, hdNumB, h1, h2, h3, h4, h5, h6, h7]]
    go_enter Tryz.func63, Tryz.ntmps63
    go_wp2_with (first
      | (go_at_call 86; refine (spPlanOk_any _ _ _ _).mono ?_; rintro e w1 ⟨rfl, hb⟩; replace kk := kk.trans (hb.mono kk.size); clear hb; (try clear hc hf); obtain ⟨hc, hf⟩ := bcell kk)
      | (go_at_call 90; refine (spCallOk_four _ _ _ _ _ _ _ _).mono ?_; rintro e w1 ⟨rfl, hb⟩; replace kk := kk.trans (hb.mono kk.size); clear hb; (try clear hc hf); obtain ⟨hc, hf⟩ := bcell kk)
      | (go_at_call 91; refine (l7None_four _ _ _ _ _).mono ?_; rintro e w1 ⟨rfl, hb⟩; replace kk := kk.trans (hb.mono kk.size); clear hb; (try clear hc hf); obtain ⟨hc, hf⟩ := bcell kk)
      | (go_at_call 34; refine (l1In_any _ _ _ _).mono ?_; rintro e w' ⟨rfl, rfl⟩)
      | (go_at_call 92; refine (l1Time_any _ _).mono ?_; rintro e w' ⟨rfl, rfl⟩)
      | (go_at_call 93; refine (l7Now_any _ _).mono ?_; rintro e w' ⟨rfl, rfl⟩))
    go_ret
    exact ⟨ret_bool' (by simp), k0.trans (kk.mono k0.size)⟩
  cases h8 : inB be 0 20000
  · skip
    rw [show handB a b c ⟨0, ⟨k, x, y, z⟩, ti, wh, ha, cn, be, re, ou⟩ = false by simp [handB, hdNumB, h1, h2, h3, h4, h5, h6, h7, h8]]
    go_enter Tryz.func63, Tryz.ntmps63
    go_wp2_with (first
      | (go_at_call 86; refine (spPlanOk_any _ _ _ _).mono ?_; rintro e w1 ⟨rfl, hb⟩; replace kk := kk.trans (hb.mono kk.size); clear hb; (try clear hc hf); obtain ⟨hc, hf⟩ := bcell kk)
      | (go_at_call 90; refine (spCallOk_four _ _ _ _ _ _ _ _).mono ?_; rintro e w1 ⟨rfl, hb⟩; replace kk := kk.trans (hb.mono kk.size); clear hb; (try clear hc hf); obtain ⟨hc, hf⟩ := bcell kk)
      | (go_at_call 91; refine (l7None_four _ _ _ _ _).mono ?_; rintro e w1 ⟨rfl, hb⟩; replace kk := kk.trans (hb.mono kk.size); clear hb; (try clear hc hf); obtain ⟨hc, hf⟩ := bcell kk)
      | (go_at_call 34; refine (l1In_any _ _ _ _).mono ?_; rintro e w' ⟨rfl, rfl⟩)
      | (go_at_call 92; refine (l1Time_any _ _).mono ?_; rintro e w' ⟨rfl, rfl⟩)
      | (go_at_call 93; refine (l7Now_any _ _).mono ?_; rintro e w' ⟨rfl, rfl⟩))
    go_ret
    exact ⟨ret_bool' (by simp), k0.trans (kk.mono k0.size)⟩
  cases h9 : inB re 0 5
  · skip
    rw [show handB a b c ⟨0, ⟨k, x, y, z⟩, ti, wh, ha, cn, be, re, ou⟩ = false by simp [handB, hdNumB, h1, h2, h3, h4, h5, h6, h7, h8, h9]]
    go_enter Tryz.func63, Tryz.ntmps63
    go_wp2_with (first
      | (go_at_call 86; refine (spPlanOk_any _ _ _ _).mono ?_; rintro e w1 ⟨rfl, hb⟩; replace kk := kk.trans (hb.mono kk.size); clear hb; (try clear hc hf); obtain ⟨hc, hf⟩ := bcell kk)
      | (go_at_call 90; refine (spCallOk_four _ _ _ _ _ _ _ _).mono ?_; rintro e w1 ⟨rfl, hb⟩; replace kk := kk.trans (hb.mono kk.size); clear hb; (try clear hc hf); obtain ⟨hc, hf⟩ := bcell kk)
      | (go_at_call 91; refine (l7None_four _ _ _ _ _).mono ?_; rintro e w1 ⟨rfl, hb⟩; replace kk := kk.trans (hb.mono kk.size); clear hb; (try clear hc hf); obtain ⟨hc, hf⟩ := bcell kk)
      | (go_at_call 34; refine (l1In_any _ _ _ _).mono ?_; rintro e w' ⟨rfl, rfl⟩)
      | (go_at_call 92; refine (l1Time_any _ _).mono ?_; rintro e w' ⟨rfl, rfl⟩)
      | (go_at_call 93; refine (l7Now_any _ _).mono ?_; rintro e w' ⟨rfl, rfl⟩))
    go_ret
    exact ⟨ret_bool' (by simp), k0.trans (kk.mono k0.size)⟩
  cases h10 : inB ou 0 1000000000
  · skip
    rw [show handB a b c ⟨0, ⟨k, x, y, z⟩, ti, wh, ha, cn, be, re, ou⟩ = false by simp [handB, hdNumB, h1, h2, h3, h4, h5, h6, h7, h8, h9, h10]]
    go_enter Tryz.func63, Tryz.ntmps63
    go_wp2_with (first
      | (go_at_call 86; refine (spPlanOk_any _ _ _ _).mono ?_; rintro e w1 ⟨rfl, hb⟩; replace kk := kk.trans (hb.mono kk.size); clear hb; (try clear hc hf); obtain ⟨hc, hf⟩ := bcell kk)
      | (go_at_call 90; refine (spCallOk_four _ _ _ _ _ _ _ _).mono ?_; rintro e w1 ⟨rfl, hb⟩; replace kk := kk.trans (hb.mono kk.size); clear hb; (try clear hc hf); obtain ⟨hc, hf⟩ := bcell kk)
      | (go_at_call 91; refine (l7None_four _ _ _ _ _).mono ?_; rintro e w1 ⟨rfl, hb⟩; replace kk := kk.trans (hb.mono kk.size); clear hb; (try clear hc hf); obtain ⟨hc, hf⟩ := bcell kk)
      | (go_at_call 34; refine (l1In_any _ _ _ _).mono ?_; rintro e w' ⟨rfl, rfl⟩)
      | (go_at_call 92; refine (l1Time_any _ _).mono ?_; rintro e w' ⟨rfl, rfl⟩)
      | (go_at_call 93; refine (l7Now_any _ _).mono ?_; rintro e w' ⟨rfl, rfl⟩))
    go_ret
    exact ⟨ret_bool' (by simp), k0.trans (kk.mono k0.size)⟩
  rw [show handB a b c ⟨0, ⟨k, x, y, z⟩, ti, wh, ha, cn, be, re, ou⟩ = true by simp [handB, hdNumB, h1, h2, h3, h4, h5, h6, h7, h8, h9, h10]]
  go_enter Tryz.func63, Tryz.ntmps63
  go_wp2_with (first
    | (go_at_call 86; refine (spPlanOk_any _ _ _ _).mono ?_; rintro e w1 ⟨rfl, hb⟩; replace kk := kk.trans (hb.mono kk.size); clear hb; (try clear hc hf); obtain ⟨hc, hf⟩ := bcell kk)
    | (go_at_call 90; refine (spCallOk_four _ _ _ _ _ _ _ _).mono ?_; rintro e w1 ⟨rfl, hb⟩; replace kk := kk.trans (hb.mono kk.size); clear hb; (try clear hc hf); obtain ⟨hc, hf⟩ := bcell kk)
    | (go_at_call 91; refine (l7None_four _ _ _ _ _).mono ?_; rintro e w1 ⟨rfl, hb⟩; replace kk := kk.trans (hb.mono kk.size); clear hb; (try clear hc hf); obtain ⟨hc, hf⟩ := bcell kk)
    | (go_at_call 34; refine (l1In_any _ _ _ _).mono ?_; rintro e w' ⟨rfl, rfl⟩)
    | (go_at_call 92; refine (l1Time_any _ _).mono ?_; rintro e w' ⟨rfl, rfl⟩)
    | (go_at_call 93; refine (l7Now_any _ _).mono ?_; rintro e w' ⟨rfl, rfl⟩))
  go_ret
  exact ⟨ret_bool' (by simp), k0.trans (kk.mono k0.size)⟩

set_option maxRecDepth 100000 in
set_option maxHeartbeats 400000 in
theorem spNewHand_any (w : World) : Calls Tryz.prog 70 #[] w fun e w' => e = .returned (hdV newHd) ∧ Below w.heap.size w w' := by
  go_enter Tryz.func70, Tryz.ntmps70
  go_wp2
  exact bodyPost_ret (v := hdV newHd) (by simp [results, Tryz.results70, go_sem, newHd, ca0]) rfl ⟨rfl, by first | exact Below.refl _ _ | exact (Below.refl _ _).alloc (Nat.le_refl _) _ | exact ((Below.refl _ _).alloc (Nat.le_refl _) _).alloc (by simp) _⟩

end Go.Proofs.YtflekodaiejflaaGreat

/-
  Who rests (spec, chapter 7).
-/
namespace Go.Proofs.YtflekodaiejflaaGreat
open Go.RowKit Go.Joins
set_option linter.unusedVariables false
set_option linter.unusedSimpArgs false

/-- a block of twelve cells: what they hold, that they may be written -/
theorem twelve {w : World} {B : Nat} {x0 x1 x2 x3 x4 x5 x6 x7 x8 x9 x10 x11 : Value} {t : TypeId} (h0 : w.heap[B]? = some (.cells #[x0, x1, x2, x3, x4, x5, x6, x7, x8, x9, x10, x11] t (0, 0))) : w.cell? ⟨B, 0, none⟩ = some x0 ∧ w.cell? ⟨B, 1, none⟩ = some x1 ∧ w.cell? ⟨B, 2, none⟩ = some x2 ∧ w.cell? ⟨B, 3, none⟩ = some x3 ∧ w.cell? ⟨B, 4, none⟩ = some x4 ∧ w.cell? ⟨B, 5, none⟩ = some x5 ∧ w.cell? ⟨B, 6, none⟩ = some x6 ∧ w.cell? ⟨B, 7, none⟩ = some x7 ∧ w.cell? ⟨B, 8, none⟩ = some x8 ∧ w.cell? ⟨B, 9, none⟩ = some x9 ∧ w.cell? ⟨B, 10, none⟩ = some x10 ∧ w.cell? ⟨B, 11, none⟩ = some x11 ∧ w.frozen? ⟨B, 0, none⟩ = false ∧ w.frozen? ⟨B, 1, none⟩ = false ∧ w.frozen? ⟨B, 2, none⟩ = false ∧ w.frozen? ⟨B, 3, none⟩ = false ∧ w.frozen? ⟨B, 4, none⟩ = false ∧ w.frozen? ⟨B, 5, none⟩ = false ∧ w.frozen? ⟨B, 6, none⟩ = false ∧ w.frozen? ⟨B, 7, none⟩ = false ∧ w.frozen? ⟨B, 8, none⟩ = false ∧ w.frozen? ⟨B, 9, none⟩ = false ∧ w.frozen? ⟨B, 10, none⟩ = false ∧ w.frozen? ⟨B, 11, none⟩ = false :=
  ⟨cell_of_block h0 0, cell_of_block h0 1, cell_of_block h0 2, cell_of_block h0 3, cell_of_block h0 4, cell_of_block h0 5, cell_of_block h0 6, cell_of_block h0 7, cell_of_block h0 8, cell_of_block h0 9, cell_of_block h0 10, cell_of_block h0 11, unfrozen_of_block h0 0, unfrozen_of_block h0 1, unfrozen_of_block h0 2, unfrozen_of_block h0 3, unfrozen_of_block h0 4, unfrozen_of_block h0 5, unfrozen_of_block h0 6, unfrozen_of_block h0 7, unfrozen_of_block h0 8, unfrozen_of_block h0 9, unfrozen_of_block h0 10, unfrozen_of_block h0 11⟩
/-- a hand is stored into a block of its kind -/
theorem set_hand {w : World} {B : Nat} {x0 x1 x2 x3 x4 x5 x6 x7 x8 x9 x10 x11 : Value} {t : TypeId} {h : Hd} (h0 : w.heap[B]? = some (.cells #[x0, x1, x2, x3, x4, x5, x6, x7, x8, x9, x10, x11] t (0, 0))) :
    ((((((((((((w.setCell ⟨B, 0, none⟩ (.int .i64 h.pos)).setCell ⟨B, 1, none⟩ (.int .i64 h.call.code)).setCell ⟨B, 2, none⟩ (.int .i64 h.call.a)).setCell ⟨B, 3, none⟩ (.int .i64 h.call.b)).setCell ⟨B, 4, none⟩ (.int .i64 h.call.c)).setCell ⟨B, 5, none⟩ (.int .i64 h.tim)).setCell ⟨B, 6, none⟩ (.int .i64 h.whe)).setCell ⟨B, 7, none⟩ (.bool h.had)).setCell ⟨B, 8, none⟩ (.int .i64 h.cnt)).setCell ⟨B, 9, none⟩ (.int .i64 h.beg)).setCell ⟨B, 10, none⟩ (.int .i64 h.rep)).setCell ⟨B, 11, none⟩ (.int .i64 h.out)).heap[B]? = some (.cells (hdCells h) t (0, 0)) := by
  have hx := (block_setCell (i := 11) (block_setCell (i := 10) (block_setCell (i := 9) (block_setCell (i := 8) (block_setCell (i := 7) (block_setCell (i := 6) (block_setCell (i := 5) (block_setCell (i := 4) (block_setCell (i := 3) (block_setCell (i := 2) (block_setCell (i := 1) (block_setCell (i := 0) h0 (.int .i64 h.pos)) (.int .i64 h.call.code)) (.int .i64 h.call.a)) (.int .i64 h.call.b)) (.int .i64 h.call.c)) (.int .i64 h.tim)) (.int .i64 h.whe)) (.bool h.had)) (.int .i64 h.cnt)) (.int .i64 h.beg)) (.int .i64 h.rep)) (.int .i64 h.out))
  simp only [List.setIfInBounds_toArray, List.set_cons_zero, List.set_cons_succ] at hx
  exact hx
theorem b_set_hand {W w : World} {n B : Nat} {h : Hd} (hb : Below n W w) (hn : n ≤ B) :
    Below n W ((((((((((((w.setCell ⟨B, 0, none⟩ (.int .i64 h.pos)).setCell ⟨B, 1, none⟩ (.int .i64 h.call.code)).setCell ⟨B, 2, none⟩ (.int .i64 h.call.a)).setCell ⟨B, 3, none⟩ (.int .i64 h.call.b)).setCell ⟨B, 4, none⟩ (.int .i64 h.call.c)).setCell ⟨B, 5, none⟩ (.int .i64 h.tim)).setCell ⟨B, 6, none⟩ (.int .i64 h.whe)).setCell ⟨B, 7, none⟩ (.bool h.had)).setCell ⟨B, 8, none⟩ (.int .i64 h.cnt)).setCell ⟨B, 9, none⟩ (.int .i64 h.beg)).setCell ⟨B, 10, none⟩ (.int .i64 h.rep)).setCell ⟨B, 11, none⟩ (.int .i64 h.out)) :=
  ((((((((((((hb.setCell (p := ⟨B, 0, none⟩) hn (.int .i64 h.pos)).setCell (p := ⟨B, 1, none⟩) hn (.int .i64 h.call.code)).setCell (p := ⟨B, 2, none⟩) hn (.int .i64 h.call.a)).setCell (p := ⟨B, 3, none⟩) hn (.int .i64 h.call.b)).setCell (p := ⟨B, 4, none⟩) hn (.int .i64 h.call.c)).setCell (p := ⟨B, 5, none⟩) hn (.int .i64 h.tim)).setCell (p := ⟨B, 6, none⟩) hn (.int .i64 h.whe)).setCell (p := ⟨B, 7, none⟩) hn (.bool h.had)).setCell (p := ⟨B, 8, none⟩) hn (.int .i64 h.cnt)).setCell (p := ⟨B, 9, none⟩) hn (.int .i64 h.beg)).setCell (p := ⟨B, 10, none⟩) hn (.int .i64 h.rep)).setCell (p := ⟨B, 11, none⟩) hn (.int .i64 h.out))

set_option maxRecDepth 100000 in
set_option maxHeartbeats 1000000 in
theorem spResting_any (r o : Int) (w : World) : Calls Tryz.prog 40 #[.int .i64 r, .int .i64 o] w fun e w' => e = .returned (hdV (restHd r o)) ∧ Below w.heap.size w w' := by
  have k0 := (Below.refl w.heap.size w).alloc (Nat.le_refl _) (.cells #[.int .i64 0, .int .i64 0, .int .i64 0, .int .i64 0, .int .i64 0, .int .i64 0, .int .i64 0, .bool false, .int .i64 0, .int .i64 0, .int .i64 0, .int .i64 0] 39)
  have kk := Below.refl (w.alloc (.cells #[.int .i64 0, .int .i64 0, .int .i64 0, .int .i64 0, .int .i64 0, .int .i64 0, .int .i64 0, .bool false, .int .i64 0, .int .i64 0, .int .i64 0, .int .i64 0] 39)).heap.size (w.alloc (.cells #[.int .i64 0, .int .i64 0, .int .i64 0, .int .i64 0, .int .i64 0, .int .i64 0, .int .i64 0, .bool false, .int .i64 0, .int .i64 0, .int .i64 0, .int .i64 0] 39))
  have p0 := heap_alloc_new w (.cells #[.int .i64 0, .int .i64 0, .int .i64 0, .int .i64 0, .int .i64 0, .int .i64 0, .int .i64 0, .bool false, .int .i64 0, .int .i64 0, .int .i64 0, .int .i64 0] 39)
  go_enter Tryz.func40, Tryz.ntmps40
  go_wp2_with fail
  go_at_call 70; refine (spNewHand_any _).mono ?_; rintro e w1 ⟨rfl, hb⟩; replace kk := kk.trans (hb.mono kk.size); clear hb
  have hz := kk.size
  simp at hz
  replace p0 := b_block kk p0 (by simp)
  generalize hB : w.heap.size = B at p0 hz ⊢
  have kw := k0.trans (kk.mono k0.size)
  clear kk
  have c0 : ∀ X : Obj, (w1.alloc X).cell? ⟨B, 0, none⟩ = some (.int .i64 0) := fun X => cell_of_block (alloc_block X p0) 0
  have f0 : ∀ X : Obj, (w1.alloc X).frozen? ⟨B, 0, none⟩ = false := fun X => unfrozen_of_block (alloc_block X p0) 0
  have c1 : ∀ X : Obj, (w1.alloc X).cell? ⟨B, 1, none⟩ = some (.int .i64 0) := fun X => cell_of_block (alloc_block X p0) 1
  have f1 : ∀ X : Obj, (w1.alloc X).frozen? ⟨B, 1, none⟩ = false := fun X => unfrozen_of_block (alloc_block X p0) 1
  have c2 : ∀ X : Obj, (w1.alloc X).cell? ⟨B, 2, none⟩ = some (.int .i64 0) := fun X => cell_of_block (alloc_block X p0) 2
  have f2 : ∀ X : Obj, (w1.alloc X).frozen? ⟨B, 2, none⟩ = false := fun X => unfrozen_of_block (alloc_block X p0) 2
  have c3 : ∀ X : Obj, (w1.alloc X).cell? ⟨B, 3, none⟩ = some (.int .i64 0) := fun X => cell_of_block (alloc_block X p0) 3
  have f3 : ∀ X : Obj, (w1.alloc X).frozen? ⟨B, 3, none⟩ = false := fun X => unfrozen_of_block (alloc_block X p0) 3
  have c4 : ∀ X : Obj, (w1.alloc X).cell? ⟨B, 4, none⟩ = some (.int .i64 0) := fun X => cell_of_block (alloc_block X p0) 4
  have f4 : ∀ X : Obj, (w1.alloc X).frozen? ⟨B, 4, none⟩ = false := fun X => unfrozen_of_block (alloc_block X p0) 4
  have c5 : ∀ X : Obj, (w1.alloc X).cell? ⟨B, 5, none⟩ = some (.int .i64 0) := fun X => cell_of_block (alloc_block X p0) 5
  have f5 : ∀ X : Obj, (w1.alloc X).frozen? ⟨B, 5, none⟩ = false := fun X => unfrozen_of_block (alloc_block X p0) 5
  have c6 : ∀ X : Obj, (w1.alloc X).cell? ⟨B, 6, none⟩ = some (.int .i64 0) := fun X => cell_of_block (alloc_block X p0) 6
  have f6 : ∀ X : Obj, (w1.alloc X).frozen? ⟨B, 6, none⟩ = false := fun X => unfrozen_of_block (alloc_block X p0) 6
  have c7 : ∀ X : Obj, (w1.alloc X).cell? ⟨B, 7, none⟩ = some (.bool false) := fun X => cell_of_block (alloc_block X p0) 7
  have f7 : ∀ X : Obj, (w1.alloc X).frozen? ⟨B, 7, none⟩ = false := fun X => unfrozen_of_block (alloc_block X p0) 7
  have c8 : ∀ X : Obj, (w1.alloc X).cell? ⟨B, 8, none⟩ = some (.int .i64 0) := fun X => cell_of_block (alloc_block X p0) 8
  have f8 : ∀ X : Obj, (w1.alloc X).frozen? ⟨B, 8, none⟩ = false := fun X => unfrozen_of_block (alloc_block X p0) 8
  have c9 : ∀ X : Obj, (w1.alloc X).cell? ⟨B, 9, none⟩ = some (.int .i64 0) := fun X => cell_of_block (alloc_block X p0) 9
  have f9 : ∀ X : Obj, (w1.alloc X).frozen? ⟨B, 9, none⟩ = false := fun X => unfrozen_of_block (alloc_block X p0) 9
  have c10 : ∀ X : Obj, (w1.alloc X).cell? ⟨B, 10, none⟩ = some (.int .i64 0) := fun X => cell_of_block (alloc_block X p0) 10
  have f10 : ∀ X : Obj, (w1.alloc X).frozen? ⟨B, 10, none⟩ = false := fun X => unfrozen_of_block (alloc_block X p0) 10
  have c11 : ∀ X : Obj, (w1.alloc X).cell? ⟨B, 11, none⟩ = some (.int .i64 0) := fun X => cell_of_block (alloc_block X p0) 11
  have f11 : ∀ X : Obj, (w1.alloc X).frozen? ⟨B, 11, none⟩ = false := fun X => unfrozen_of_block (alloc_block X p0) 11
  go_wp2
  obtain ⟨X, hX⟩ : ∃ X : Obj, X = .cells (hdCells ⟨newHd.pos, newHd.call, newHd.tim, newHd.whe, newHd.had, newHd.cnt, newHd.beg, r, o⟩) 39 := ⟨_, rfl⟩
  have r0 := set_hand (h := ⟨newHd.pos, newHd.call, newHd.tim, newHd.whe, newHd.had, newHd.cnt, newHd.beg, r, o⟩) (alloc_block X p0)
  have hb := b_set_hand (n := w.heap.size) (h := ⟨newHd.pos, newHd.call, newHd.tim, newHd.whe, newHd.had, newHd.cnt, newHd.beg, r, o⟩) ((kw.alloc kw.size X)) (Nat.le_of_eq hB)
  rw [hX] at r0 hb
  have hq := r0
  clear r0
  have r0 := cell_of_block hq 0
  have r1 := cell_of_block hq 1
  have r2 := cell_of_block hq 2
  have r3 := cell_of_block hq 3
  have r4 := cell_of_block hq 4
  have r5 := cell_of_block hq 5
  have r6 := cell_of_block hq 6
  have r7 := cell_of_block hq 7
  have r8 := cell_of_block hq 8
  have r9 := cell_of_block hq 9
  have r10 := cell_of_block hq 10
  have r11 := cell_of_block hq 11
  exact bodyPost_ret (v := hdV ⟨newHd.pos, newHd.call, newHd.tim, newHd.whe, newHd.had, newHd.cnt, newHd.beg, r, o⟩) (by simp [results, Tryz.results40, go_sem, r0, r1, r2, r3, r4, r5, r6, r7, r8, r9, r10, r11]) rfl ⟨rfl, hb⟩

end Go.Proofs.YtflekodaiejflaaGreat

/-
  Structs of numbers, flags and structs of numbers, opened and shut. (No number of the program's but those of int64 and bool.)
-/
namespace Go.Proofs.YtflekodaiejflaaGreat
open Go.ChangeShapes Go.WideShapes Go.ChangeAt Go.RowKit Go.Joins
set_option linter.unusedVariables false
set_option linter.unusedSimpArgs false

/-- what a field is: a number, a flag, a struct of numbers -/
inductive Kd where
  | num
  | flag
  | sub (t : TypeId) (m : Nat)
def Kd.size : Kd → Nat
  | .num => 1
  | .flag => 1
  | .sub _ m => m
def Kd.type (I Bo : TypeId) : Kd → TypeId
  | .num => I
  | .flag => Bo
  | .sub t _ => t
/-- what a field holds -/
inductive Fd where
  | num (z : Int)
  | flag (b : Bool)
  | sub (zs : List Int)
def Fd.vals : Fd → List Value
  | .num z => [.int .i64 z]
  | .flag b => [.bool b]
  | .sub zs => numsV zs
def Fd.dat {H : Type} : Fd → DataW H
  | .num z => .lit (.int .i64 z)
  | .flag b => .lit (.bool b)
  | .sub zs => .agg (numsD zs)
def Fd.ok : Kd → Fd → Prop
  | .num, .num z => (Lit.int .i64 z).wf = true
  | .flag, .flag _ => True
  | .sub _ m, .sub zs => zs.length = m ∧ ∀ z ∈ zs, (Lit.int .i64 z).wf = true
  | _, _ => False
def Fd.oks : List Kd → List Fd → Prop
  | [], [] => True
  | k :: ks, d :: ds => Fd.ok k d ∧ Fd.oks ks ds
  | _, _ => False
theorem Fd.oks_length : ∀ {ks : List Kd} {ds : List Fd}, Fd.oks ks ds → ds.length = ks.length
  | [], [], _ => rfl
  | _ :: _, _ :: _, h => by simpa using Fd.oks_length h.2
theorem Fd.ok_size {k : Kd} {d : Fd} (h : Fd.ok k d) : d.vals.length = k.size := by
  cases k <;> cases d <;> simp [Fd.ok, Fd.vals, Kd.size] at h ⊢
  exact h.1
def flatVals (ds : List Fd) : List Value := ds.flatMap Fd.vals
def total (ks : List Kd) : Nat := (ks.map Kd.size).sum
theorem Fd.oks_total : ∀ {ks : List Kd} {ds : List Fd}, Fd.oks ks ds → (flatVals ds).length = total ks
  | [], [], _ => rfl
  | k :: ks, d :: ds, h => by
    have h1 := Fd.ok_size h.1
    have h2 := Fd.oks_total h.2
    simp [flatVals, total] at h2 ⊢
    omega
/-- the fields are these, one behind the other -/
def treeF (P : Program) (I Bo : TypeId) : Nat → List Field → List Kd → Bool
  | _, [], [] => true
  | off, f :: fs, k :: ks => f.offset == off && (f.type == k.type I Bo && (P.cellsOf f.type == k.size && treeF P I Bo (off + k.size) fs ks))
  | _, _, _ => false
def subsOk (P : Program) (I : TypeId) (k : Kd) : Prop := match k with
  | .sub t m => ∃ fs : Array Field, P.underlying t = some (.struct fs) ∧ flatF I fs = true ∧ fs.size = m
  | _ => True
theorem treeF_cons {P : Program} {I Bo : TypeId} {off : Nat} {f : Field} {fs : List Field} {k : Kd} {ks : List Kd} (h : treeF P I Bo off (f :: fs) (k :: ks) = true) : f.offset = off ∧ f.type = k.type I Bo ∧ P.cellsOf f.type = k.size ∧ treeF P I Bo (off + k.size) fs ks = true := by
  simpa [treeF] using h

theorem tree_one {H : Type} {enc : TypeId × Value → H} {P : Program} {w : World} {base n : Nat} {sp : Nat → Bool} {hd : Bool} {I Bo : TypeId} {k : Kd} {cs : List Value} {x : DataW H × List MemPlace} (hI : P.underlying I = some (.int .i64)) (hB : P.underlying Bo = some .bool) (hc : P.cellsOf I = 1)
    (hs : subsOk P I k) (hk : P.cellsOf (k.type I Bo) = k.size) (h : DataW.trod enc P w base sp hd n (k.type I Bo) cs = some x) : ∃ d : Fd, Fd.ok k d ∧ cs = d.vals ∧ x = (d.dat, []) := by
  cases k with
  | num =>
    obtain ⟨z, e1, e2, hw⟩ := DataW.trod_int hI h
    exact ⟨.num z, hw, e1, e2⟩
  | flag =>
    obtain ⟨b, e1, e2⟩ := DataW.trod_bool hB h
    exact ⟨.flag b, trivial, e1, e2⟩
  | sub t m =>
    obtain ⟨fs, h1, h2, h3⟩ := hs
    obtain ⟨zs, e1, e2, e3, hw⟩ := trod_flat h1 h2 hI hc ((show P.cellsOf t = m from hk).trans h3.symm) h
    exact ⟨.sub zs, ⟨by omega, hw⟩, e2, e3⟩

theorem tree_list {H : Type} {enc : TypeId × Value → H} {P : Program} {w : World} {base n : Nat} {sp : Nat → Bool} {hd : Bool} {I Bo : TypeId} (hI : P.underlying I = some (.int .i64)) (hB : P.underlying Bo = some .bool) (hc : P.cellsOf I = 1) (CS : List Value) :
    ∀ (ks : List Kd) (fs : List Field) (off : Nat) (xs : List (DataW H × List MemPlace)), (∀ k ∈ ks, subsOk P I k) → treeF P I Bo off fs ks = true → CS.length = off + total ks → xs.length = fs.length →
      (∀ (i : Nat) (f : Field), fs[i]? = some f → DataW.trod enc P w base sp hd n f.type ((CS.drop f.offset).take (P.cellsOf f.type)) = xs[i]?) →
      ∃ ds : List Fd, Fd.oks ks ds ∧ CS.drop off = flatVals ds ∧ xs = ds.map (fun d => (d.dat, []))
  | [], [], off, [], _, _, hl, _, _ => ⟨[], trivial, by rw [List.drop_eq_nil_of_le (by simp [total] at hl; omega)]; rfl, rfl⟩
  | [], [], _, _ :: _, _, _, _, hl, _ => by simp at hl
  | [], _ :: _, _, _, _, h, _, _, _ => by simp [treeF] at h
  | _ :: _, [], _, _, _, h, _, _, _ => by simp [treeF] at h
  | _ :: _, _ :: _, _, [], _, _, _, hl, _ => by simp at hl
  | k :: ks, f :: fs, off, x :: xs, hs, h, hl, hlx, hf => by
    obtain ⟨e1, e2, e3, e4⟩ := treeF_cons h
    have h0 := hf 0 f rfl
    rw [e1, e3, e2] at h0
    obtain ⟨d, hd1, hd2, hd3⟩ := tree_one hI hB hc (hs k (by simp)) (by rw [← e2]; exact e3) h0
    obtain ⟨ds, i1, i2, i3⟩ := tree_list hI hB hc CS ks fs (off + k.size) xs (fun q hq => hs q (by simp [hq])) e4 (by simp [total] at hl ⊢; omega) (by simpa using hlx) (fun i g hg => hf (i + 1) g (by simpa using hg))
    refine ⟨d :: ds, ⟨hd1, i1⟩, ?_, by rw [i3, hd3]; rfl⟩
    have : CS.drop off = (CS.drop off).take k.size ++ (CS.drop off).drop k.size := (List.take_append_drop _ _).symm
    rw [this, hd2, List.drop_drop, i2]
    rfl

theorem open_tree {H : Type} {enc : TypeId × Value → H} {P : Program} {w : World} {b0 base : Nat} {sp : Nat → Bool} {hd : Bool} {r : Reach} {t I Bo : TypeId} {fs : Array Field} {ks : List Kd} {v : Value} {d : DataW H} {p : List MemPlace}
    (ht : P.underlying t = some (.struct fs)) (hI : P.underlying I = some (.int .i64)) (hB : P.underlying Bo = some .bool) (hc : P.cellsOf I = 1) (hs : ∀ k ∈ ks, subsOk P I k) (hf : treeF P I Bo 0 fs.toList ks = true) (hC : P.cellsOf t = total ks)
    (hv : Value.okWide P w r b0 t v) (h : DataW.Trod enc P w base sp hd t v d p) :
    ∃ ds : List Fd, Fd.oks ks ds ∧ v = .agg (flatVals ds).toArray ∧ d = .agg (ds.map Fd.dat) ∧ p = [] := by
  obtain ⟨cs, rfl, hsz⟩ := okWide_struct ht hv
  obtain ⟨fuel, h⟩ := h
  obtain ⟨xs, n, _, hx, hl, hlen, hfs⟩ := DataW.trod_struct ht h
  have hl' : cs.toList.length = total ks := by rw [Array.length_toList, hsz, hC]
  obtain ⟨ds, h1, h2, h3⟩ := tree_list (enc := enc) (w := w) (base := base) (sp := sp) (hd := hd) (n := n) hI hB hc cs.toList ks fs.toList 0 xs hs hf (by omega) (by simpa using hlen) (fun i f hfi => by
    have := hfs i f (by simpa using hfi)
    simpa [Value.cells] using this)
  simp only [Prod.mk.injEq] at hx
  refine ⟨ds, h1, ?_, ?_, ?_⟩
  · rw [List.drop_zero] at h2; rw [← h2]
  · rw [hx.1, h3]; simp [Function.comp_def]
  · rw [hx.2, h3]; simp

theorem tree_one_mk {H : Type} {enc : TypeId × Value → H} {P : Program} {w : World} {base n : Nat} {sp : Nat → Bool} {hd : Bool} {I Bo : TypeId} {k : Kd} {d : Fd} (hI : P.underlying I = some (.int .i64)) (hB : P.underlying Bo = some .bool) (hc : P.cellsOf I = 1)
    (hs : subsOk P I k) (hk : P.cellsOf (k.type I Bo) = k.size) (h : Fd.ok k d) : DataW.trod enc P w base sp hd (n + 2) (k.type I Bo) d.vals = some (d.dat, []) := by
  cases k <;> cases d <;> simp only [Fd.ok] at h
  case num.num z =>
    unfold DataW.trod
    simp only [Kd.type, hI, Fd.vals, Fd.dat]
    simp [h]
  case flag.flag b =>
    unfold DataW.trod
    simp only [Kd.type, hB, Fd.vals, Fd.dat]
  case sub.sub t m zs =>
    obtain ⟨fs, h1, h2, h3⟩ := hs
    exact trod_flat_mk (n := n) h1 h2 hI hc ((show P.cellsOf t = m from hk).trans h3.symm) (by omega) h.2

theorem tree_list_mk {H : Type} {enc : TypeId × Value → H} {P : Program} {w : World} {base n : Nat} {sp : Nat → Bool} {hd : Bool} {I Bo : TypeId} (hI : P.underlying I = some (.int .i64)) (hB : P.underlying Bo = some .bool) (hc : P.cellsOf I = 1) (CS : List Value) :
    ∀ (ks : List Kd) (ds : List Fd) (fs : List Field) (off : Nat), (∀ k ∈ ks, subsOk P I k) → treeF P I Bo off fs ks = true → Fd.oks ks ds → CS.drop off = flatVals ds →
      fs.mapM (fun f => DataW.trod enc P w base sp hd (n + 2) f.type ((CS.drop f.offset).take (P.cellsOf f.type))) = some (ds.map (fun d => (d.dat, [])))
  | [], [], [], _, _, _, _, _ => by simp
  | [], _ :: _, _, _, _, _, h, _ => by simp [Fd.oks] at h
  | _ :: _, [], _, _, _, _, h, _ => by simp [Fd.oks] at h
  | [], [], _ :: _, _, _, h, _, _ => by simp [treeF] at h
  | _ :: _, _ :: _, [], _, _, h, _, _ => by simp [treeF] at h
  | k :: ks, d :: ds, f :: fs, off, hs, h, ho, hcs => by
    obtain ⟨e1, e2, e3, e4⟩ := treeF_cons h
    have hz := Fd.ok_size ho.1
    have hcs2 : CS.drop off = d.vals ++ flatVals ds := hcs
    have h1 : (CS.drop off).take k.size = d.vals := by rw [hcs2, ← hz]; simp
    have h2 : CS.drop (off + k.size) = flatVals ds := by rw [← List.drop_drop, hcs2, ← hz]; simp
    rw [List.mapM_cons, tree_list_mk hI hB hc CS ks ds fs (off + k.size) (fun q hq => hs q (by simp [hq])) e4 ho.2 h2, e1, e3, e2, h1, tree_one_mk hI hB hc (hs k (by simp)) (by rw [← e2]; exact e3) ho.1]
    simp

theorem no_places {H : Type} (ds : List Fd) : (ds.map (fun d => ((d.dat : DataW H), ([] : List MemPlace)))).flatMap (·.2) = [] := by
  induction ds with
  | nil => rfl
  | cons d ds ih => simp

theorem shut_tree {H : Type} {enc : TypeId × Value → H} {P : Program} {w : World} {base : Nat} {sp : Nat → Bool} {hd : Bool} {t I Bo : TypeId} {fs : Array Field} {ks : List Kd} {ds : List Fd}
    (ht : P.underlying t = some (.struct fs)) (hI : P.underlying I = some (.int .i64)) (hB : P.underlying Bo = some .bool) (hc : P.cellsOf I = 1) (hs : ∀ k ∈ ks, subsOk P I k) (hf : treeF P I Bo 0 fs.toList ks = true) (hC : P.cellsOf t = total ks) (ho : Fd.oks ks ds) :
    DataW.Trod enc P w base sp hd t (.agg (flatVals ds).toArray) (.agg (ds.map Fd.dat)) [] := by
  refine ⟨3, ?_⟩
  have hm := trod_struct_mk (enc := enc) (w := w) (base := base) (spare := sp) (held := hd) (n := 2) (cs := flatVals ds) (xs := ds.map (fun d => (d.dat, []))) ht (by rw [Fd.oks_total ho, hC])
    (tree_list_mk hI hB hc (flatVals ds) ks ds fs.toList 0 hs hf ho (by simp))
  rw [no_places] at hm
  simpa [Value.cells, Function.comp_def] using hm

end Go.Proofs.YtflekodaiejflaaGreat

/-
  Calls and hands of a law: made, compared, opened and shut.
-/
namespace Go.Proofs.YtflekodaiejflaaGreat
open Go.ChangeShapes Go.WideShapes Go.ChangeAt Go.RowKit Go.Joins
set_option linter.unusedVariables false
set_option linter.unusedSimpArgs false

set_option maxRecDepth 100000 in
set_option maxHeartbeats 400000 in
theorem toCall_any (q : Ca) (w : World) :
    Calls Tryz.prog 22 #[caV q] w fun e w' => e = .returned (caV q) ∧ Below w.heap.size w w' := by
  go_enter Tryz.func22, Tryz.ntmps22
  go_wp2
  exact bodyPost_ret (v := caV q) (by simp [results, Tryz.results22, go_sem]) rfl ⟨rfl, (((Below.refl _ _).alloc (Nat.le_refl _) _).alloc (by simp) _).alloc (by simp; omega) _⟩
set_option maxRecDepth 100000 in
set_option maxHeartbeats 4000000 in
theorem toHand_any (h : Hd) (w : World) :
    Calls Tryz.prog 8 #[hdV h] w fun e w' => e = .returned (hdV h) ∧ Below w.heap.size w w' := by
  have k0 := (((Below.refl w.heap.size w).alloc (Nat.le_refl _) (.cells (hdCells h) 31)).alloc (by simp) (.cells #[.int .i64 0, .int .i64 0, .int .i64 0, .int .i64 0, .int .i64 0, .int .i64 0, .int .i64 0, .bool false, .int .i64 0, .int .i64 0, .int .i64 0, .int .i64 0] 39)).alloc (by simp; omega) (.cells #[.int .i64 h.pos, .int .i64 0, .int .i64 0, .int .i64 0, .int .i64 0, .int .i64 0, .int .i64 0, .bool false, .int .i64 0, .int .i64 0, .int .i64 0, .int .i64 0] 39)
  have kk := Below.refl (((w.alloc (.cells (hdCells h) 31)).alloc (.cells #[.int .i64 0, .int .i64 0, .int .i64 0, .int .i64 0, .int .i64 0, .int .i64 0, .int .i64 0, .bool false, .int .i64 0, .int .i64 0, .int .i64 0, .int .i64 0] 39)).alloc (.cells #[.int .i64 h.pos, .int .i64 0, .int .i64 0, .int .i64 0, .int .i64 0, .int .i64 0, .int .i64 0, .bool false, .int .i64 0, .int .i64 0, .int .i64 0, .int .i64 0] 39)).heap.size (((w.alloc (.cells (hdCells h) 31)).alloc (.cells #[.int .i64 0, .int .i64 0, .int .i64 0, .int .i64 0, .int .i64 0, .int .i64 0, .int .i64 0, .bool false, .int .i64 0, .int .i64 0, .int .i64 0, .int .i64 0] 39)).alloc (.cells #[.int .i64 h.pos, .int .i64 0, .int .i64 0, .int .i64 0, .int .i64 0, .int .i64 0, .int .i64 0, .bool false, .int .i64 0, .int .i64 0, .int .i64 0, .int .i64 0] 39))
  have p0 := alloc_block (.cells #[.int .i64 h.pos, .int .i64 0, .int .i64 0, .int .i64 0, .int .i64 0, .int .i64 0, .int .i64 0, .bool false, .int .i64 0, .int .i64 0, .int .i64 0, .int .i64 0] 39) (alloc_block (.cells #[.int .i64 0, .int .i64 0, .int .i64 0, .int .i64 0, .int .i64 0, .int .i64 0, .int .i64 0, .bool false, .int .i64 0, .int .i64 0, .int .i64 0, .int .i64 0] 39) (heap_alloc_new w (.cells (hdCells h) 31)))
  have p1 := alloc_block (.cells #[.int .i64 h.pos, .int .i64 0, .int .i64 0, .int .i64 0, .int .i64 0, .int .i64 0, .int .i64 0, .bool false, .int .i64 0, .int .i64 0, .int .i64 0, .int .i64 0] 39) (heap_alloc_new (w.alloc (.cells (hdCells h) 31)) (.cells #[.int .i64 0, .int .i64 0, .int .i64 0, .int .i64 0, .int .i64 0, .int .i64 0, .int .i64 0, .bool false, .int .i64 0, .int .i64 0, .int .i64 0, .int .i64 0] 39))
  have p2 := heap_alloc_new ((w.alloc (.cells (hdCells h) 31)).alloc (.cells #[.int .i64 0, .int .i64 0, .int .i64 0, .int .i64 0, .int .i64 0, .int .i64 0, .int .i64 0, .bool false, .int .i64 0, .int .i64 0, .int .i64 0, .int .i64 0] 39)) (.cells #[.int .i64 h.pos, .int .i64 0, .int .i64 0, .int .i64 0, .int .i64 0, .int .i64 0, .int .i64 0, .bool false, .int .i64 0, .int .i64 0, .int .i64 0, .int .i64 0] 39)
  rw [show (w.alloc (.cells (hdCells h) 31)).heap.size = w.heap.size + 1 by simp] at p1
  rw [show ((w.alloc (.cells (hdCells h) 31)).alloc (.cells #[.int .i64 0, .int .i64 0, .int .i64 0, .int .i64 0, .int .i64 0, .int .i64 0, .int .i64 0, .bool false, .int .i64 0, .int .i64 0, .int .i64 0, .int .i64 0] 39)).heap.size = w.heap.size + 1 + 1 by simp] at p2
  go_enter Tryz.func8, Tryz.ntmps8
  go_wp2_with fail
  go_at_call 22; refine (toCall_any _ _).mono ?_; rintro e w1 ⟨rfl, hb⟩; replace kk := kk.trans (hb.mono kk.size); clear hb
  replace p0 := b_block kk p0 (by simp <;> omega)
  replace p1 := b_block kk p1 (by simp <;> omega)
  replace p2 := b_block kk p2 (by simp <;> omega)
  have kw := k0.trans (kk.mono k0.size)
  clear kk k0
  have c0_0 : w1.cell? ⟨w.heap.size, 0, none⟩ = some (.int .i64 h.pos) := cell_of_block p0 0
  have c1_0 : w1.cell? ⟨w.heap.size + 1, 0, none⟩ = some (.int .i64 0) := cell_of_block p1 0
  have f1_0 : w1.frozen? ⟨w.heap.size + 1, 0, none⟩ = false := unfrozen_of_block p1 0
  have c2_0 : w1.cell? ⟨w.heap.size + 1 + 1, 0, none⟩ = some (.int .i64 h.pos) := cell_of_block p2 0
  have f2_0 : w1.frozen? ⟨w.heap.size + 1 + 1, 0, none⟩ = false := unfrozen_of_block p2 0
  have c0_1 : w1.cell? ⟨w.heap.size, 1, none⟩ = some (.int .i64 h.call.code) := cell_of_block p0 1
  have c1_1 : w1.cell? ⟨w.heap.size + 1, 1, none⟩ = some (.int .i64 0) := cell_of_block p1 1
  have f1_1 : w1.frozen? ⟨w.heap.size + 1, 1, none⟩ = false := unfrozen_of_block p1 1
  have c2_1 : w1.cell? ⟨w.heap.size + 1 + 1, 1, none⟩ = some (.int .i64 0) := cell_of_block p2 1
  have f2_1 : w1.frozen? ⟨w.heap.size + 1 + 1, 1, none⟩ = false := unfrozen_of_block p2 1
  have c0_2 : w1.cell? ⟨w.heap.size, 2, none⟩ = some (.int .i64 h.call.a) := cell_of_block p0 2
  have c1_2 : w1.cell? ⟨w.heap.size + 1, 2, none⟩ = some (.int .i64 0) := cell_of_block p1 2
  have f1_2 : w1.frozen? ⟨w.heap.size + 1, 2, none⟩ = false := unfrozen_of_block p1 2
  have c2_2 : w1.cell? ⟨w.heap.size + 1 + 1, 2, none⟩ = some (.int .i64 0) := cell_of_block p2 2
  have f2_2 : w1.frozen? ⟨w.heap.size + 1 + 1, 2, none⟩ = false := unfrozen_of_block p2 2
  have c0_3 : w1.cell? ⟨w.heap.size, 3, none⟩ = some (.int .i64 h.call.b) := cell_of_block p0 3
  have c1_3 : w1.cell? ⟨w.heap.size + 1, 3, none⟩ = some (.int .i64 0) := cell_of_block p1 3
  have f1_3 : w1.frozen? ⟨w.heap.size + 1, 3, none⟩ = false := unfrozen_of_block p1 3
  have c2_3 : w1.cell? ⟨w.heap.size + 1 + 1, 3, none⟩ = some (.int .i64 0) := cell_of_block p2 3
  have f2_3 : w1.frozen? ⟨w.heap.size + 1 + 1, 3, none⟩ = false := unfrozen_of_block p2 3
  have c0_4 : w1.cell? ⟨w.heap.size, 4, none⟩ = some (.int .i64 h.call.c) := cell_of_block p0 4
  have c1_4 : w1.cell? ⟨w.heap.size + 1, 4, none⟩ = some (.int .i64 0) := cell_of_block p1 4
  have f1_4 : w1.frozen? ⟨w.heap.size + 1, 4, none⟩ = false := unfrozen_of_block p1 4
  have c2_4 : w1.cell? ⟨w.heap.size + 1 + 1, 4, none⟩ = some (.int .i64 0) := cell_of_block p2 4
  have f2_4 : w1.frozen? ⟨w.heap.size + 1 + 1, 4, none⟩ = false := unfrozen_of_block p2 4
  have c0_5 : w1.cell? ⟨w.heap.size, 5, none⟩ = some (.int .i64 h.tim) := cell_of_block p0 5
  have c1_5 : w1.cell? ⟨w.heap.size + 1, 5, none⟩ = some (.int .i64 0) := cell_of_block p1 5
  have f1_5 : w1.frozen? ⟨w.heap.size + 1, 5, none⟩ = false := unfrozen_of_block p1 5
  have c2_5 : w1.cell? ⟨w.heap.size + 1 + 1, 5, none⟩ = some (.int .i64 0) := cell_of_block p2 5
  have f2_5 : w1.frozen? ⟨w.heap.size + 1 + 1, 5, none⟩ = false := unfrozen_of_block p2 5
  have c0_6 : w1.cell? ⟨w.heap.size, 6, none⟩ = some (.int .i64 h.whe) := cell_of_block p0 6
  have c1_6 : w1.cell? ⟨w.heap.size + 1, 6, none⟩ = some (.int .i64 0) := cell_of_block p1 6
  have f1_6 : w1.frozen? ⟨w.heap.size + 1, 6, none⟩ = false := unfrozen_of_block p1 6
  have c2_6 : w1.cell? ⟨w.heap.size + 1 + 1, 6, none⟩ = some (.int .i64 0) := cell_of_block p2 6
  have f2_6 : w1.frozen? ⟨w.heap.size + 1 + 1, 6, none⟩ = false := unfrozen_of_block p2 6
  have c0_7 : w1.cell? ⟨w.heap.size, 7, none⟩ = some (.bool h.had) := cell_of_block p0 7
  have c1_7 : w1.cell? ⟨w.heap.size + 1, 7, none⟩ = some (.bool false) := cell_of_block p1 7
  have f1_7 : w1.frozen? ⟨w.heap.size + 1, 7, none⟩ = false := unfrozen_of_block p1 7
  have c2_7 : w1.cell? ⟨w.heap.size + 1 + 1, 7, none⟩ = some (.bool false) := cell_of_block p2 7
  have f2_7 : w1.frozen? ⟨w.heap.size + 1 + 1, 7, none⟩ = false := unfrozen_of_block p2 7
  have c0_8 : w1.cell? ⟨w.heap.size, 8, none⟩ = some (.int .i64 h.cnt) := cell_of_block p0 8
  have c1_8 : w1.cell? ⟨w.heap.size + 1, 8, none⟩ = some (.int .i64 0) := cell_of_block p1 8
  have f1_8 : w1.frozen? ⟨w.heap.size + 1, 8, none⟩ = false := unfrozen_of_block p1 8
  have c2_8 : w1.cell? ⟨w.heap.size + 1 + 1, 8, none⟩ = some (.int .i64 0) := cell_of_block p2 8
  have f2_8 : w1.frozen? ⟨w.heap.size + 1 + 1, 8, none⟩ = false := unfrozen_of_block p2 8
  have c0_9 : w1.cell? ⟨w.heap.size, 9, none⟩ = some (.int .i64 h.beg) := cell_of_block p0 9
  have c1_9 : w1.cell? ⟨w.heap.size + 1, 9, none⟩ = some (.int .i64 0) := cell_of_block p1 9
  have f1_9 : w1.frozen? ⟨w.heap.size + 1, 9, none⟩ = false := unfrozen_of_block p1 9
  have c2_9 : w1.cell? ⟨w.heap.size + 1 + 1, 9, none⟩ = some (.int .i64 0) := cell_of_block p2 9
  have f2_9 : w1.frozen? ⟨w.heap.size + 1 + 1, 9, none⟩ = false := unfrozen_of_block p2 9
  have c0_10 : w1.cell? ⟨w.heap.size, 10, none⟩ = some (.int .i64 h.rep) := cell_of_block p0 10
  have c1_10 : w1.cell? ⟨w.heap.size + 1, 10, none⟩ = some (.int .i64 0) := cell_of_block p1 10
  have f1_10 : w1.frozen? ⟨w.heap.size + 1, 10, none⟩ = false := unfrozen_of_block p1 10
  have c2_10 : w1.cell? ⟨w.heap.size + 1 + 1, 10, none⟩ = some (.int .i64 0) := cell_of_block p2 10
  have f2_10 : w1.frozen? ⟨w.heap.size + 1 + 1, 10, none⟩ = false := unfrozen_of_block p2 10
  have c0_11 : w1.cell? ⟨w.heap.size, 11, none⟩ = some (.int .i64 h.out) := cell_of_block p0 11
  have c1_11 : w1.cell? ⟨w.heap.size + 1, 11, none⟩ = some (.int .i64 0) := cell_of_block p1 11
  have f1_11 : w1.frozen? ⟨w.heap.size + 1, 11, none⟩ = false := unfrozen_of_block p1 11
  have c2_11 : w1.cell? ⟨w.heap.size + 1 + 1, 11, none⟩ = some (.int .i64 0) := cell_of_block p2 11
  have f2_11 : w1.frozen? ⟨w.heap.size + 1 + 1, 11, none⟩ = false := unfrozen_of_block p2 11

  go_wp2
  have kq : Below (w.heap.size + 1 + 1) w1 (((((((((((w1.setCell ⟨w.heap.size + 1 + 1, 1, none⟩ (.int .i64 h.call.code)).setCell ⟨w.heap.size + 1 + 1, 2, none⟩ (.int .i64 h.call.a)).setCell ⟨w.heap.size + 1 + 1, 3, none⟩ (.int .i64 h.call.b)).setCell ⟨w.heap.size + 1 + 1, 4, none⟩ (.int .i64 h.call.c)).setCell ⟨w.heap.size + 1 + 1, 5, none⟩ (.int .i64 h.tim)).setCell ⟨w.heap.size + 1 + 1, 6, none⟩ (.int .i64 h.whe)).setCell ⟨w.heap.size + 1 + 1, 7, none⟩ (.bool h.had)).setCell ⟨w.heap.size + 1 + 1, 8, none⟩ (.int .i64 h.cnt)).setCell ⟨w.heap.size + 1 + 1, 9, none⟩ (.int .i64 h.beg)).setCell ⟨w.heap.size + 1 + 1, 10, none⟩ (.int .i64 h.rep)).setCell ⟨w.heap.size + 1 + 1, 11, none⟩ (.int .i64 h.out)) :=
    ((((((((((((Below.refl _ w1).setCell (p := ⟨w.heap.size + 1 + 1, 1, none⟩) (Nat.le_refl _) (.int .i64 h.call.code)).setCell (p := ⟨w.heap.size + 1 + 1, 2, none⟩) (Nat.le_refl _) (.int .i64 h.call.a)).setCell (p := ⟨w.heap.size + 1 + 1, 3, none⟩) (Nat.le_refl _) (.int .i64 h.call.b)).setCell (p := ⟨w.heap.size + 1 + 1, 4, none⟩) (Nat.le_refl _) (.int .i64 h.call.c)).setCell (p := ⟨w.heap.size + 1 + 1, 5, none⟩) (Nat.le_refl _) (.int .i64 h.tim)).setCell (p := ⟨w.heap.size + 1 + 1, 6, none⟩) (Nat.le_refl _) (.int .i64 h.whe)).setCell (p := ⟨w.heap.size + 1 + 1, 7, none⟩) (Nat.le_refl _) (.bool h.had)).setCell (p := ⟨w.heap.size + 1 + 1, 8, none⟩) (Nat.le_refl _) (.int .i64 h.cnt)).setCell (p := ⟨w.heap.size + 1 + 1, 9, none⟩) (Nat.le_refl _) (.int .i64 h.beg)).setCell (p := ⟨w.heap.size + 1 + 1, 10, none⟩) (Nat.le_refl _) (.int .i64 h.rep)).setCell (p := ⟨w.heap.size + 1 + 1, 11, none⟩) (Nat.le_refl _) (.int .i64 h.out))
  have r0 := set_hand (h := h) (b_block kq p1 (Nat.lt_succ_self _))
  have hb := b_set_hand (n := w.heap.size) (B := w.heap.size + 1) (h := h) (kw.trans (kq.mono (by omega))) (by omega)
  have hq := r0
  clear r0
  have r0 := cell_of_block hq 0
  have r1 := cell_of_block hq 1
  have r2 := cell_of_block hq 2
  have r3 := cell_of_block hq 3
  have r4 := cell_of_block hq 4
  have r5 := cell_of_block hq 5
  have r6 := cell_of_block hq 6
  have r7 := cell_of_block hq 7
  have r8 := cell_of_block hq 8
  have r9 := cell_of_block hq 9
  have r10 := cell_of_block hq 10
  have r11 := cell_of_block hq 11
  exact bodyPost_ret (v := hdV h) (by simp [results, Tryz.results8, go_sem, r0, r1, r2, r3, r4, r5, r6, r7, r8, r9, r10, r11]) rfl ⟨rfl, hb⟩

set_option maxRecDepth 100000 in
set_option maxHeartbeats 1000000 in
theorem eqCall_same (q : Ca) (w : World) :
    Calls Tryz.prog 55 #[caV q, caV q] w fun e w' => e = .returned (.bool true) ∧ Below w.heap.size w w' := by
  go_enter Tryz.func55, Tryz.ntmps55
  go_wp2
  go_ret
  exact ⟨rfl, ((Below.refl _ _).alloc (Nat.le_refl _) _).alloc (by simp) _⟩
theorem eqCall_four (k x y z : Int) (w : World) :
    Calls Tryz.prog 55 #[.agg #[.int .i64 k, .int .i64 x, .int .i64 y, .int .i64 z], .agg #[.int .i64 k, .int .i64 x, .int .i64 y, .int .i64 z]] w fun e w' => e = .returned (.bool true) ∧ Below w.heap.size w w' := eqCall_same ⟨k, x, y, z⟩ w
set_option maxRecDepth 100000 in
set_option maxHeartbeats 2000000 in
theorem eqHand_same (h : Hd) (w : World) :
    Calls Tryz.prog 25 #[hdV h, hdV h] w fun e w' => e = .returned (.bool true) ∧ Below w.heap.size w w' := by
  have k0 := ((Below.refl w.heap.size w).alloc (Nat.le_refl _) (.cells (hdCells h) 39)).alloc (by simp) (.cells (hdCells h) 39)
  have kk := Below.refl ((w.alloc (.cells (hdCells h) 39)).alloc (.cells (hdCells h) 39)).heap.size ((w.alloc (.cells (hdCells h) 39)).alloc (.cells (hdCells h) 39))
  go_enter Tryz.func25, Tryz.ntmps25
  go_wp2_with (go_at_call 55; refine (eqCall_four _ _ _ _ _).mono ?_; rintro e w1 ⟨rfl, hb⟩; replace kk := kk.trans (hb.mono kk.size); clear hb; obtain ⟨hc, hf⟩ := bcell kk)
  go_ret
  exact ⟨rfl, k0.trans (kk.mono k0.size)⟩

theorem cellsCallLaw : Tryz.prog.cellsOf 29 = 4 := by kernel_rfl
set_option maxRecDepth 100000 in
theorem open_call {H : Type} {enc : TypeId × Value → H} {W : World} {base : Nat} {sp : Nat → Bool} {hd : Bool} {v : Value} {d : DataW H} {p : List MemPlace}
    (hv : Value.okWide Tryz.prog W .any base 29 v) (h : DataW.Trod enc Tryz.prog W 0 sp hd 29 v d p) :
    ∃ q : Ca, v = caV q ∧ d = .agg (numsD (caL q)) ∧ p = [] ∧ ∀ z ∈ caL q, (Lit.int .i64 z).wf = true := by
  obtain ⟨zs, hl, rfl, rfl, rfl, hw⟩ := open_flat Tryz.underlying29 (I := 2) (by kernel_rfl) Tryz.underlying2 (by kernel_rfl) (by kernel_rfl) hv h
  match zs, hl with
  | [a, b, c, d], _ => exact ⟨⟨a, b, c, d⟩, rfl, rfl, rfl, hw⟩
set_option maxRecDepth 100000 in
theorem shut_call {H : Type} {enc : TypeId × Value → H} {q : Ca} (hw : ∀ z ∈ caL q, (Lit.int .i64 z).wf = true) (W' : World) (n : Nat) (sp : Nat → Bool) (hd : Bool) :
    DataW.Trod enc Tryz.prog W' n sp hd 29 (caV q) (.agg (numsD (caL q))) [] :=
  shut_flat (zs := caL q) Tryz.underlying29 (I := 2) (by kernel_rfl) Tryz.underlying2 (by kernel_rfl) (by kernel_rfl) rfl hw
abbrev hdK : List Kd := [.num, .sub 29 4, .num, .num, .flag, .num, .num, .num, .num]
abbrev hdF (h : Hd) : List Fd := [.num h.pos, .sub (caL h.call), .num h.tim, .num h.whe, .flag h.had, .num h.cnt, .num h.beg, .num h.rep, .num h.out]
theorem hdK_subs : ∀ k ∈ hdK, subsOk Tryz.prog 2 k := by
  intro k hk
  simp only [hdK, List.mem_cons, List.not_mem_nil, or_false] at hk
  rcases hk with rfl | rfl | rfl | rfl | rfl | rfl | rfl | rfl | rfl <;> first | trivial | exact ⟨_, Tryz.underlying29, by kernel_rfl, by kernel_rfl⟩
theorem hd_opens : ∀ {ds : List Fd}, Fd.oks hdK ds → ∃ h : Hd, ds = hdF h ∧ Fd.oks hdK (hdF h)
  | [.num a, .sub [k, x, y, z], .num b, .num c, .flag d, .num e, .num f, .num g, .num i], ho => ⟨⟨a, ⟨k, x, y, z⟩, b, c, d, e, f, g, i⟩, rfl, ho⟩
set_option maxRecDepth 100000 in
theorem open_hand {H : Type} {enc : TypeId × Value → H} {W : World} {base : Nat} {sp : Nat → Bool} {hd : Bool} {v : Value} {d : DataW H} {p : List MemPlace}
    (hv : Value.okWide Tryz.prog W .any base 31 v) (h : DataW.Trod enc Tryz.prog W 0 sp hd 31 v d p) :
    ∃ x : Hd, v = hdV x ∧ d = .agg ((hdF x).map Fd.dat) ∧ p = [] ∧ Fd.oks hdK (hdF x) := by
  obtain ⟨ds, ho, rfl, rfl, rfl⟩ := open_tree (ks := hdK) Tryz.underlying31 Tryz.underlying2 Tryz.underlying4 (by kernel_rfl) hdK_subs (by kernel_rfl) (by kernel_rfl) hv h
  obtain ⟨x, rfl, ho⟩ := hd_opens ho
  exact ⟨x, rfl, rfl, rfl, ho⟩
set_option maxRecDepth 100000 in
theorem shut_hand {H : Type} {enc : TypeId × Value → H} {x : Hd} (ho : Fd.oks hdK (hdF x)) (W' : World) (n : Nat) (sp : Nat → Bool) (hd : Bool) :
    DataW.Trod enc Tryz.prog W' n sp hd 31 (hdV x) (.agg ((hdF x).map Fd.dat)) [] :=
  shut_tree (ks := hdK) (ds := hdF x) Tryz.underlying31 Tryz.underlying2 Tryz.underlying4 (by kernel_rfl) hdK_subs (by kernel_rfl) (by kernel_rfl) ho

end Go.Proofs.YtflekodaiejflaaGreat

/-
  Append onto a list of processors of the call's own.
-/
namespace Go.Proofs.YtflekodaiejflaaGreat
open Go.RowKit Go.Joins
set_option linter.unusedVariables false
set_option linter.unusedSimpArgs false

/-- a processor's four cells -/
def pcAt (P : Pcs) (V : Nat → Value) (i : Nat) : Nat → Value
  | 0 => V i
  | 1 => .int .i64 (P i).l
  | 2 => .int .i64 (P i).e
  | _ => .int .i64 (P i).d
theorem below4 {P : Nat → Prop} (h0 : P 0) (h1 : P 1) (h2 : P 2) (h3 : P 3) : ∀ j, j < 4 → P j
  | 0, _ => h0
  | 1, _ => h1
  | 2, _ => h2
  | 3, _ => h3
  | _ + 4, h => by omega
def cellsP (P : Pcs) (V : Nat → Value) : Nat → List Value
  | 0 => []
  | n + 1 => cellsP P V n ++ [V n, .int .i64 (P n).l, .int .i64 (P n).e, .int .i64 (P n).d]
theorem cellsP_length (P : Pcs) (V : Nat → Value) : ∀ n, (cellsP P V n).length = n * 4
  | 0 => rfl
  | n + 1 => by rw [cellsP, List.length_append, cellsP_length P V n]; simp; omega
theorem cellsP_get (P : Pcs) (V : Nat → Value) : ∀ n i, i < n → ∀ j, j < 4 → (cellsP P V n)[i * 4 + j]? = some (pcAt P V i j)
  | 0, i, h => absurd h (Nat.not_lt_zero _)
  | n + 1, i, h => by
    intro j hj
    rw [cellsP]
    by_cases e : i = n
    · subst e
      rw [List.getElem?_append_right (by rw [cellsP_length]; omega), cellsP_length, Nat.add_sub_cancel_left]
      revert j
      apply below4 <;> rfl
    · rw [List.getElem?_append_left (by rw [cellsP_length]; omega)]
      exact cellsP_get P V n i (by omega) j hj
theorem cellsP_congr {P Q : Pcs} {V U : Nat → Value} : ∀ n, (∀ i, i < n → P i = Q i) → (∀ i, i < n → V i = U i) → cellsP P V n = cellsP Q U n
  | 0, _, _ => rfl
  | n + 1, h, hv => by rw [cellsP, cellsP, cellsP_congr n (fun i hi => h i (by omega)) (fun i hi => hv i (by omega)), h n (by omega), hv n (by omega)]
theorem cellsP_push (P : Pcs) (V : Nat → Value) (n : Nat) (p : Pc) (u : Value) : cellsP P V n ++ [u, .int .i64 p.l, .int .i64 p.e, .int .i64 p.d] = cellsP (putP P n p) (putV V n u) (n + 1) := by
  rw [cellsP, putP_same, putV_same, cellsP_congr (P := P) (Q := putP P n p) (V := V) (U := putV V n u) n (fun i hi => (putP_other P (i := n) (k := i) p (by omega)).symm) (fun i hi => (putV_other V (i := i) (k := n) u (by omega)).symm)]
theorem proc_info2 : (Tryz.prog.info? 87).map (fun i => (i.zero, i.size, i.bytes)) = some (some (.agg #[.slice none 0 0, .int .i64 0, .int .i64 0, .int .i64 0]), 4, 48) := by kernel_rfl

/-- the list itself, no word of the slots -/
def ListRow (w : World) (B : Nat) (v : Value) (m : Nat) (P : Pcs) (V : Nat → Value) : Prop :=
  (m = 0 ∧ v = .slice none 0 0) ∨ ∃ g cap, v = .slice (some ⟨g, 0, none⟩) m cap ∧ ListAt w B g m cap P V
theorem listP_of_row {w : World} {B n : Nat} {v : Value} {P : Pcs} {V : Nat → Value} (h : w.ownsRow B 87 4 v n (cellsP P V n)) : ListRow w B v n P V := by
  rcases h.2 with ⟨rfl, rfl⟩ | ⟨g, cap, cur, rfl, hB, hg, hn, hcm, hs, ht⟩
  · exact .inl ⟨rfl, rfl⟩
  · refine .inr ⟨g, cap, rfl, hB, hn, hcm, cur, hg, hs, fun i hi => ?_⟩
    have key : ∀ j, j < 4 → cur[i * 4 + j]? = some (pcAt P V i j) := by
      intro j hj
      have h1 := cellsP_get P V n i hi j hj
      rw [← ht, List.getElem?_take_of_lt (by omega)] at h1
      simpa using h1
    exact ⟨key 0 (by omega), key 1 (by omega), key 2 (by omega), key 3 (by omega)⟩
theorem rowP_of_list {w : World} {B n : Nat} {v : Value} {P : Pcs} {V : Nat → Value} (h : ListRow w B v n P V) : w.ownsRow B 87 4 v n (cellsP P V n) := by
  rcases h with ⟨rfl, rfl⟩ | ⟨g, cap, rfl, h1, h2, h3, cur, hh, hs, hr⟩
  · exact World.ownsRow_nil w B _ _
  refine ⟨cellsP_length P V n, .inr ⟨g, cap, cur, rfl, h1, hh, h2, h3, hs, ?_⟩⟩
  apply List.ext_getElem?
  intro k
  by_cases hk : k < n * 4
  · rw [List.getElem?_take_of_lt hk]
    have a := cellsP_get P V n (k / 4) (by omega) (k % 4) (by omega)
    have b : cur[k / 4 * 4 + k % 4]? = some (pcAt P V (k / 4) (k % 4)) := by
      obtain ⟨b0, b1, b2, b3⟩ := hr (k / 4) (by omega)
      exact below4 (P := fun j => cur[k / 4 * 4 + j]? = some (pcAt P V (k / 4) j)) b0 b1 b2 b3 (k % 4) (by omega)
    rw [show k / 4 * 4 + k % 4 = k by omega] at a b
    rw [a]; simpa using b
  · rw [List.getElem?_eq_none (by rw [List.length_take]; omega), List.getElem?_eq_none (by rw [cellsP_length]; omega)]
theorem ListRow.below {w w' : World} {B m : Nat} {v : Value} {P : Pcs} {V : Nat → Value} (h : ListRow w B v m P V) (hb : Below w.heap.size w w') : ListRow w' B v m P V := by
  rcases h with h | ⟨g, cap, e, h⟩
  · exact .inl h
  · exact .inr ⟨g, cap, e, h.below hb⟩
theorem ListRow.form {w : World} {B m : Nat} {v : Value} {P : Pcs} {V : Nat → Value} (h : ListRow w B v m P V) : ∃ a cap, v = .slice a m cap := by
  rcases h with ⟨rfl, rfl⟩ | ⟨g, cap, rfl, _⟩
  · exact ⟨_, _, rfl⟩
  · exact ⟨_, _, rfl⟩
theorem ListRow.own {w : World} {B m : Nat} {v : Value} {P : Pcs} {V : Nat → Value} (h : ListRow w B v m P V) (hh : HeapsAt w B m P V) : OwnPRow w B v m P := by
  rcases h with h | ⟨g, cap, e, h⟩
  · exact .inl h
  · exact .inr ⟨g, cap, V, e, h, hh⟩

theorem ListRow.block_ge {w : World} {B m : Nat} {v : Value} {P : Pcs} {V : Nat → Value} (h : ListRow w B v m P V) : ∀ x, v.ownBlock = some x → B ≤ x := by
  intro x hx
  rcases h with ⟨_, rfl⟩ | ⟨g, cap, rfl, h⟩
  · simp [Value.ownBlock] at hx
  · simp [Value.ownBlock] at hx
    subst hx
    exact h.1
theorem ListRow.block_lt {w : World} {B m : Nat} {v : Value} {P : Pcs} {V : Nat → Value} (h : ListRow w B v m P V) : ∀ x, v.ownBlock = some x → x < w.heap.size := by
  intro x hx
  rcases h with ⟨_, rfl⟩ | ⟨g, cap, rfl, h⟩
  · simp [Value.ownBlock] at hx
  · simp [Value.ownBlock] at hx
    subst hx
    exact h.lt
/-- the slots' blocks are none of the list's: they stay when the list grows -/
theorem HeapsAt.grown {w w' : World} {B B' m n : Nat} {v : Value} {P Q : Pcs} {V U : Nat → Value} (h : HeapsAt w B m P V) (hl : ListRow w B' v n Q U) (hg : w.grownBy w' v.ownBlock) : HeapsAt w' B m P V := by
  refine h.other fun i hi x hx => hg.block x ((h.1 i hi).lt_size x hx) ?_
  intro e
  rcases hl with ⟨_, rfl⟩ | ⟨g, cap, rfl, hl⟩
  · simp [Value.ownBlock] at e
  · simp [Value.ownBlock] at e
    exact hl.ne_heap (h.1 i hi) x hx e
theorem OwnRow.keptO {w w' : World} {B B' m n : Nat} {v u : Value} {f : Slots} {Q : Pcs} {U : Nat → Value} (h : OwnRow w B u n f) (hg : w.grownBy w' v.ownBlock) (hl : ListRow w B' v m Q U) : OwnRow w' B u n f := by
  rcases h with h | ⟨g, cap, rfl, h⟩
  · exact .inl h
  · refine .inr ⟨g, cap, rfl, h.block (hg.block g h.lt ?_)⟩
    intro e
    rcases hl with ⟨_, rfl⟩ | ⟨g', cap', rfl, hl⟩
    · simp [Value.ownBlock] at e
    · simp [Value.ownBlock] at e
      exact hl.ne_heap (OwnAt.own h) g rfl e
/-- one more, whose slots' list is its own -/
theorem HeapsAt.add {w : World} {B k : Nat} {P : Pcs} {V : Nat → Value} {u : Value} {p : Pc} (h : HeapsAt w B k P V) (ho : OwnRow w B u p.n p.f) (hd : ∀ i, i < k → ∀ x, (V i).ownBlock = some x → u.ownBlock ≠ some x) :
    HeapsAt w B (k + 1) (putP P k p) (putV V k u) := by
  refine ⟨fun i hi => ?_, fun i j hi hj hij x hx => ?_⟩
  · by_cases e : i = k
    · subst e; rw [putP_same, putV_same]; exact ho
    · rw [putP_other P p e, putV_other V u e]; exact h.1 i (by omega)
  · by_cases e : i = k
    · subst e
      rw [putV_same] at hx
      rw [putV_other V u (Ne.symm hij)]
      intro h2
      exact hd j (by omega) x h2 hx
    · rw [putV_other V u e] at hx
      by_cases e2 : j = k
      · subst e2
        rw [putV_same]
        exact hd i (by omega) x hx
      · rw [putV_other V u e2]
        exact h.2 i j (by omega) (by omega) hij x hx

theorem ListRow.set {w : World} {B m b : Nat} {v : Value} {P : Pcs} {V : Nat → Value} (h : ListRow w B v m P V) (hb : b < B) (o : Nat) (u : Value) : ListRow (w.setCell ⟨b, o, none⟩ u) B v m P V := by
  rcases h with h | ⟨g, cap, e, h⟩
  · exact .inl h
  · exact .inr ⟨g, cap, e, h.block (Below.heap_setCell w ⟨b, o, none⟩ u g (show g ≠ b by have := h.1; omega))⟩
theorem HeapsAt.block_ge {w : World} {B m : Nat} {P : Pcs} {V : Nat → Value} (h : HeapsAt w B m P V) {i : Nat} (hi : i < m) : ∀ x, (V i).ownBlock = some x → B ≤ x := by
  intro x hx
  rcases h.1 i hi with ⟨_, ev⟩ | ⟨g, c, ev, ho⟩
  · rw [ev] at hx; simp [Value.ownBlock] at hx
  · rw [ev] at hx; simp [Value.ownBlock] at hx; subst hx; exact ho.1
theorem HeapsAt.set {w : World} {B m b : Nat} {P : Pcs} {V : Nat → Value} (h : HeapsAt w B m P V) (hb : b < B) (o : Nat) (u : Value) : HeapsAt (w.setCell ⟨b, o, none⟩ u) B m P V :=
  h.other fun i hi x hx => Below.heap_setCell w ⟨b, o, none⟩ u x (show x ≠ b by have := h.block_ge hi x hx; omega)
theorem ListRow.congr {w : World} {B m : Nat} {v : Value} {P Q : Pcs} {V U : Nat → Value} (h : ListRow w B v m P V) (e : ∀ i, i < m → P i = Q i) (ev : ∀ i, i < m → V i = U i) : ListRow w B v m Q U := by
  rcases h with h | ⟨g, cap, e1, h⟩
  · exact .inl h
  · exact .inr ⟨g, cap, e1, h.congr e ev⟩
theorem b_grownO {a w : World} {B : Nat} {ob : Option Nat} (h : a.grownBy w ob) (hx : ∀ x, ob = some x → B ≤ x) (hs : B ≤ a.heap.size) : Below B a w :=
  ⟨h.os, h.tape, h.output, h.size, fun i hi => h.block i (by omega) (fun e => by have := hx i e.symm; omega)⟩

theorem run_append_proc (w : World) (B : Nat) (ty : TypeId) (v : Value) (n : Nat) (P : Pcs) (V : Nat → Value) (hown : w.ownsRow B 87 4 v n (cellsP P V n)) (b : Nat) (p : Pc) (u : Value) (hu : u.oneCell' = true)
    (hc : w.heap[b]? = some (.cells #[u, .int .i64 p.l, .int .i64 p.e, .int .i64 p.d] 87 (0, 0))) (hn : n + 1 ≤ 2097152) (hB : B ≤ w.heap.size) :
    ∃ v' w', (Builtin.append_ #[34, 34] ty #[v, .slice (some ⟨b, 0, none⟩) 1 1]).run Tryz.prog w = .ok v' w' ∧ w'.ownsRow B 87 4 v' (n + 1) (cellsP (putP P n p) (putV V n u) (n + 1)) ∧ w.grownBy w' v.ownBlock ∧ (v'.ownBlock = v.ownBlock ∨ v'.ownBlock = some w.heap.size) := by
  obtain ⟨i0, hi, hz, hs, hby⟩ := info_parts proc_info2
  have hbytes : (n + 1) * 48 ≤ 140737488355328 := by omega
  have h63 : n + 1 ≤ maxLen := by unfold maxLen; omega
  obtain ⟨v', w', hrun, h2, h3, _, h5⟩ := run_append_own_at (P := Tryz.prog) w B 34 ty 87 i0 _ 4 48 Tryz.underlying34 hi hz hs hby rfl (by decide) v n _ hown ⟨b, 0, none⟩ 1 1 [u, .int .i64 p.l, .int .i64 p.e, .int .i64 p.d] rfl
    (fun j x hx => by
      rw [Go.WideShapes.add_plain, Nat.zero_add]
      rw [cell_of_block hc j]
      simpa using hx) (by
      intro x hx
      simp only [List.mem_cons, List.mem_nil_iff, or_false] at hx
      rcases hx with rfl | rfl | rfl | rfl
      · exact hu
      all_goals rfl) h63 hbytes hB
  exact ⟨v', w', hrun, by rw [← cellsP_push]; exact h2, h3, h5⟩

theorem wp_append_proc {o : Oper} {a : Act} {K : Act → World → Prop} {Q : Exit → Act → World → Prop} {w : World} (s x : Operand)
    (ho : o.op = .call { callee := .builtin .append, args := #[s, x], argTypes := #[34, 34] })
    (B : Nat) (v : Value) (n : Nat) (P : Pcs) (V : Nat → Value) (hs : a.eval s = v) (hown : w.ownsRow B 87 4 v n (cellsP P V n)) (b : Nat) (p : Pc) (u : Value) (hu : u.oneCell' = true) (hx : a.eval x = .slice (some ⟨b, 0, none⟩) 1 1)
    (hc : w.heap[b]? = some (.cells #[u, .int .i64 p.l, .int .i64 p.e, .int .i64 p.d] 87 (0, 0))) (hn : n + 1 ≤ 2097152) (hB : B ≤ w.heap.size)
    (hK : ∀ v' w', w'.ownsRow B 87 4 v' (n + 1) (cellsP (putP P n p) (putV V n u) (n + 1)) → w.grownBy w' v.ownBlock → (v'.ownBlock = v.ownBlock ∨ v'.ownBlock = some w.heap.size) → K (a.put o.dst v') w') : o.wp Tryz.prog a w K Q := by
  obtain ⟨v', w', hr, h2, h3, h4⟩ := run_append_proc w B o.type v n P V hown b p u hu hc hn hB
  unfold Oper.wp execOp
  simp only [ho, resolve, invoke, builtin, Sem.run_bind, Sem.run_pure, Result.andThen_ok, List.map_toArray, List.map_cons, List.map_nil, hs, hx, hr]
  exact hK v' w' h2 h3 h4
theorem wpList_append_proc {ops : Array Oper} {rest : List Oper} {o : Oper} {a : Act} {Q : Exit → Act → World → Prop} {w : World} (hgd : o.guard = none) (s x : Operand)
    (ho : o.op = .call { callee := .builtin .append, args := #[s, x], argTypes := #[34, 34] })
    (B : Nat) (v : Value) (n : Nat) (P : Pcs) (V : Nat → Value) (hs : a.eval s = v) (hown : w.ownsRow B 87 4 v n (cellsP P V n)) (b : Nat) (p : Pc) (u : Value) (hu : u.oneCell' = true) (hx : a.eval x = .slice (some ⟨b, 0, none⟩) 1 1)
    (hc : w.heap[b]? = some (.cells #[u, .int .i64 p.l, .int .i64 p.e, .int .i64 p.d] 87 (0, 0))) (hn : n + 1 ≤ 2097152) (hB : B ≤ w.heap.size)
    (hK : ∀ v' w', w'.ownsRow B 87 4 v' (n + 1) (cellsP (putP P n p) (putV V n u) (n + 1)) → w.grownBy w' v.ownBlock → (v'.ownBlock = v.ownBlock ∨ v'.ownBlock = some w.heap.size) → wpList Tryz.prog ops Q rest (a.put o.dst v') w') : wpList Tryz.prog ops Q (o :: rest) a w :=
  wpList_plain hgd fun _ hK' => wp_append_proc s x ho B v n P V hs hown b p u hu hx hc hn hB fun v' w' h2 h3 h4 => hK' _ _ (hK v' w' h2 h3 h4)
theorem step_append_proc {ops : Array Oper} {o : Oper} {a : Act} {K : Act → World → Prop} {Q : Exit → Act → World → Prop} {E : Prop} {w : World} (hgd : o.guard = none) (s x : Operand)
    (ho : o.op = .call { callee := .builtin .append, args := #[s, x], argTypes := #[34, 34] })
    (B : Nat) (v : Value) (n : Nat) (P : Pcs) (V : Nat → Value) (hs : a.eval s = v) (hown : w.ownsRow B 87 4 v n (cellsP P V n)) (b : Nat) (p : Pc) (u : Value) (hu : u.oneCell' = true) (hx : a.eval x = .slice (some ⟨b, 0, none⟩) 1 1)
    (hc : w.heap[b]? = some (.cells #[u, .int .i64 p.l, .int .i64 p.e, .int .i64 p.d] 87 (0, 0))) (hn : n + 1 ≤ 2097152) (hB : B ≤ w.heap.size)
    (hK : ∀ v' w', w'.ownsRow B 87 4 v' (n + 1) (cellsP (putP P n p) (putV V n u) (n + 1)) → w.grownBy w' v.ownBlock → (v'.ownBlock = v.ownBlock ∨ v'.ownBlock = some w.heap.size) → K (a.put o.dst v') w') :
    if Region.wanted o (yielded ops a.tmps) = true then Oper.wp Tryz.prog o a w K Q else E := by
  have hw : Region.wanted o (yielded ops a.tmps) = true := by simp [Region.wanted, hgd]
  rw [if_pos hw]
  exact wp_append_proc s x ho B v n P V hs hown b p u hu hx hc hn hB hK

end Go.Proofs.YtflekodaiejflaaGreat

/-
  A new memory (spec, chapter 5).
-/
namespace Go.Proofs.YtflekodaiejflaaGreat
open Go.RowKit Go.Joins
set_option linter.unusedVariables false
set_option linter.unusedSimpArgs false

/-- the zero memory -/
def me0 : Me := ⟨0, 0, fun _ => tm0, 0, fun _ => pc0⟩
/-- a new one -/
def newM (a b c : Int) : Me := if planB a b c then ⟨0, 0, fun _ => tm0, a.toNat, fun _ => ⟨0, fun _ => (0, 0), -1, -1, 0⟩⟩ else me0
theorem own_me0 (w : World) (B : Nat) : OwnMem w B (.slice none 0 0) (.slice none 0 0) me0 := ⟨.inl ⟨rfl, rfl⟩, .inl ⟨rfl, rfl⟩⟩

/-- a value that a variable of the call's own holds, and which is answered through the block of the answer -/
theorem OwnTRow.set3 {w : World} {B n b : Nat} {v : Value} {f : Tms} (h : OwnTRow w B v n f) (hb : b < B) (x y z : Value) :
    OwnTRow (((w.setCell ⟨b, 0, none⟩ x).setCell ⟨b, 1, none⟩ y).setCell ⟨b, 2, none⟩ z) B v n f := ((h.set hb 0 x).set hb 1 y).set hb 2 z
theorem set_same {w : World} {B b : Nat} (hb : b < B) (o : Nat) (x : Value) : ∀ g, B ≤ g → (w.setCell ⟨b, o, none⟩ x).heap[g]? = w.heap[g]? :=
  fun g hg => Below.heap_setCell w ⟨b, o, none⟩ x g (show g ≠ b by omega)
theorem OwnPRow.set3 {w : World} {B m b : Nat} {v : Value} {P : Pcs} (h : OwnPRow w B v m P) (hb : b < B) (x y z : Value) :
    OwnPRow (((w.setCell ⟨b, 0, none⟩ x).setCell ⟨b, 1, none⟩ y).setCell ⟨b, 2, none⟩ z) B v m P :=
  h.kept1 fun g hg _ => (set_same hb 2 z g hg).trans ((set_same hb 1 y g hg).trans (set_same hb 0 x g hg))
theorem OwnMem.set3 {w : World} {B b : Nat} {tv pv : Value} {M : Me} (h : OwnMem w B tv pv M) (hb : b < B) (x y z : Value) :
    OwnMem (((w.setCell ⟨b, 0, none⟩ x).setCell ⟨b, 1, none⟩ y).setCell ⟨b, 2, none⟩ z) B tv pv M := ⟨h.1.set3 hb x y z, h.2.set3 hb x y z⟩
theorem b_set3 {W w : World} {n g : Nat} (h : Below n W w) (hg : n ≤ g) (x y z : Value) : Below n W (((w.setCell ⟨g, 0, none⟩ x).setCell ⟨g, 1, none⟩ y).setCell ⟨g, 2, none⟩ z) :=
  ((h.setCell (p := ⟨g, 0, none⟩) hg x).setCell (p := ⟨g, 1, none⟩) hg y).setCell (p := ⟨g, 2, none⟩) hg z
/-- the new processors, as many as there are yet -/
def newP : Pcs := fun _ => ⟨0, fun _ => (0, 0), -1, -1, 0⟩

end Go.Proofs.YtflekodaiejflaaGreat

/-
  What comes of a step: a memory, a hand, what is told (chapter 9): stored, compared, marked, looked at again.
-/
namespace Go.Proofs.YtflekodaiejflaaGreat
open Go.ChangeShapes Go.WideShapes Go.ChangeAt Go.RowKit Go.Joins
set_option linter.unusedVariables false
set_option linter.unusedSimpArgs false

/-- what is told: a kind, a timer, its gen, a time, the clock -/
structure Et where
  kin : Int
  tim : Int
  gen : Int
  whe : Int
  clk : Int
def et0 : Et := ⟨0, 0, 0, 0, 0⟩
structure Dn where
  m : Me
  h : Hd
  v : Et
def dn0 : Dn := ⟨me0, ⟨0, ca0, 0, 0, false, 0, 0, 0, 0⟩, et0⟩
abbrev dnCells (D : Dn) (tv pv : Value) : Array Value := #[.int .i64 D.m.c, tv, pv, .int .i64 D.h.pos, .int .i64 D.h.call.code, .int .i64 D.h.call.a, .int .i64 D.h.call.b, .int .i64 D.h.call.c, .int .i64 D.h.tim, .int .i64 D.h.whe, .bool D.h.had, .int .i64 D.h.cnt, .int .i64 D.h.beg, .int .i64 D.h.rep, .int .i64 D.h.out, .int .i64 D.v.kin, .int .i64 D.v.tim, .int .i64 D.v.gen, .int .i64 D.v.whe, .int .i64 D.v.clk]
abbrev dnV (D : Dn) (tv pv : Value) : Value := .agg #[.int .i64 D.m.c, tv, pv, .int .i64 D.h.pos, .int .i64 D.h.call.code, .int .i64 D.h.call.a, .int .i64 D.h.call.b, .int .i64 D.h.call.c, .int .i64 D.h.tim, .int .i64 D.h.whe, .bool D.h.had, .int .i64 D.h.cnt, .int .i64 D.h.beg, .int .i64 D.h.rep, .int .i64 D.h.out, .int .i64 D.v.kin, .int .i64 D.v.tim, .int .i64 D.v.gen, .int .i64 D.v.whe, .int .i64 D.v.clk]
/-- the answer of a step: made by the call itself -/
def NewDn (D : Dn) (q : Bool) (w : World) (e : Ending) (w' : World) : Prop := ∃ tv pv, e = .returned (.tuple #[dnV D tv pv, .bool q]) ∧ OwnMem w' w.heap.size tv pv D.m ∧ Below w.heap.size w w'
/-- a variable that holds one -/
def DnAt (w : World) (b : Nat) (D : Dn) (tv pv : Value) : Prop := w.heap[b]? = some (.cells (dnCells D tv pv) 43 (0, 0)) ∧ MemAt w tv pv D.m

theorem twenty {w : World} {B : Nat} {x0 x1 x2 x3 x4 x5 x6 x7 x8 x9 x10 x11 x12 x13 x14 x15 x16 x17 x18 x19 : Value} {t : TypeId} (h0 : w.heap[B]? = some (.cells #[x0, x1, x2, x3, x4, x5, x6, x7, x8, x9, x10, x11, x12, x13, x14, x15, x16, x17, x18, x19] t (0, 0))) : w.cell? ⟨B, 0, none⟩ = some x0 ∧ w.cell? ⟨B, 1, none⟩ = some x1 ∧ w.cell? ⟨B, 2, none⟩ = some x2 ∧ w.cell? ⟨B, 3, none⟩ = some x3 ∧ w.cell? ⟨B, 4, none⟩ = some x4 ∧ w.cell? ⟨B, 5, none⟩ = some x5 ∧ w.cell? ⟨B, 6, none⟩ = some x6 ∧ w.cell? ⟨B, 7, none⟩ = some x7 ∧ w.cell? ⟨B, 8, none⟩ = some x8 ∧ w.cell? ⟨B, 9, none⟩ = some x9 ∧ w.cell? ⟨B, 10, none⟩ = some x10 ∧ w.cell? ⟨B, 11, none⟩ = some x11 ∧ w.cell? ⟨B, 12, none⟩ = some x12 ∧ w.cell? ⟨B, 13, none⟩ = some x13 ∧ w.cell? ⟨B, 14, none⟩ = some x14 ∧ w.cell? ⟨B, 15, none⟩ = some x15 ∧ w.cell? ⟨B, 16, none⟩ = some x16 ∧ w.cell? ⟨B, 17, none⟩ = some x17 ∧ w.cell? ⟨B, 18, none⟩ = some x18 ∧ w.cell? ⟨B, 19, none⟩ = some x19 ∧ w.frozen? ⟨B, 0, none⟩ = false ∧ w.frozen? ⟨B, 1, none⟩ = false ∧ w.frozen? ⟨B, 2, none⟩ = false ∧ w.frozen? ⟨B, 3, none⟩ = false ∧ w.frozen? ⟨B, 4, none⟩ = false ∧ w.frozen? ⟨B, 5, none⟩ = false ∧ w.frozen? ⟨B, 6, none⟩ = false ∧ w.frozen? ⟨B, 7, none⟩ = false ∧ w.frozen? ⟨B, 8, none⟩ = false ∧ w.frozen? ⟨B, 9, none⟩ = false ∧ w.frozen? ⟨B, 10, none⟩ = false ∧ w.frozen? ⟨B, 11, none⟩ = false ∧ w.frozen? ⟨B, 12, none⟩ = false ∧ w.frozen? ⟨B, 13, none⟩ = false ∧ w.frozen? ⟨B, 14, none⟩ = false ∧ w.frozen? ⟨B, 15, none⟩ = false ∧ w.frozen? ⟨B, 16, none⟩ = false ∧ w.frozen? ⟨B, 17, none⟩ = false ∧ w.frozen? ⟨B, 18, none⟩ = false ∧ w.frozen? ⟨B, 19, none⟩ = false :=
  ⟨cell_of_block h0 0, cell_of_block h0 1, cell_of_block h0 2, cell_of_block h0 3, cell_of_block h0 4, cell_of_block h0 5, cell_of_block h0 6, cell_of_block h0 7, cell_of_block h0 8, cell_of_block h0 9, cell_of_block h0 10, cell_of_block h0 11, cell_of_block h0 12, cell_of_block h0 13, cell_of_block h0 14, cell_of_block h0 15, cell_of_block h0 16, cell_of_block h0 17, cell_of_block h0 18, cell_of_block h0 19, unfrozen_of_block h0 0, unfrozen_of_block h0 1, unfrozen_of_block h0 2, unfrozen_of_block h0 3, unfrozen_of_block h0 4, unfrozen_of_block h0 5, unfrozen_of_block h0 6, unfrozen_of_block h0 7, unfrozen_of_block h0 8, unfrozen_of_block h0 9, unfrozen_of_block h0 10, unfrozen_of_block h0 11, unfrozen_of_block h0 12, unfrozen_of_block h0 13, unfrozen_of_block h0 14, unfrozen_of_block h0 15, unfrozen_of_block h0 16, unfrozen_of_block h0 17, unfrozen_of_block h0 18, unfrozen_of_block h0 19⟩
theorem set_done {w : World} {B : Nat} {x0 x1 x2 x3 x4 x5 x6 x7 x8 x9 x10 x11 x12 x13 x14 x15 x16 x17 x18 x19 : Value} {t : TypeId} {D : Dn} {tv pv : Value} (h0 : w.heap[B]? = some (.cells #[x0, x1, x2, x3, x4, x5, x6, x7, x8, x9, x10, x11, x12, x13, x14, x15, x16, x17, x18, x19] t (0, 0))) :
    ((((((((((((((((((((w.setCell ⟨B, 0, none⟩ (.int .i64 D.m.c)).setCell ⟨B, 1, none⟩ (tv)).setCell ⟨B, 2, none⟩ (pv)).setCell ⟨B, 3, none⟩ (.int .i64 D.h.pos)).setCell ⟨B, 4, none⟩ (.int .i64 D.h.call.code)).setCell ⟨B, 5, none⟩ (.int .i64 D.h.call.a)).setCell ⟨B, 6, none⟩ (.int .i64 D.h.call.b)).setCell ⟨B, 7, none⟩ (.int .i64 D.h.call.c)).setCell ⟨B, 8, none⟩ (.int .i64 D.h.tim)).setCell ⟨B, 9, none⟩ (.int .i64 D.h.whe)).setCell ⟨B, 10, none⟩ (.bool D.h.had)).setCell ⟨B, 11, none⟩ (.int .i64 D.h.cnt)).setCell ⟨B, 12, none⟩ (.int .i64 D.h.beg)).setCell ⟨B, 13, none⟩ (.int .i64 D.h.rep)).setCell ⟨B, 14, none⟩ (.int .i64 D.h.out)).setCell ⟨B, 15, none⟩ (.int .i64 D.v.kin)).setCell ⟨B, 16, none⟩ (.int .i64 D.v.tim)).setCell ⟨B, 17, none⟩ (.int .i64 D.v.gen)).setCell ⟨B, 18, none⟩ (.int .i64 D.v.whe)).setCell ⟨B, 19, none⟩ (.int .i64 D.v.clk)).heap[B]? = some (.cells (dnCells D tv pv) t (0, 0)) := by
  have hx := (block_setCell (i := 19) (block_setCell (i := 18) (block_setCell (i := 17) (block_setCell (i := 16) (block_setCell (i := 15) (block_setCell (i := 14) (block_setCell (i := 13) (block_setCell (i := 12) (block_setCell (i := 11) (block_setCell (i := 10) (block_setCell (i := 9) (block_setCell (i := 8) (block_setCell (i := 7) (block_setCell (i := 6) (block_setCell (i := 5) (block_setCell (i := 4) (block_setCell (i := 3) (block_setCell (i := 2) (block_setCell (i := 1) (block_setCell (i := 0) h0 (.int .i64 D.m.c)) (tv)) (pv)) (.int .i64 D.h.pos)) (.int .i64 D.h.call.code)) (.int .i64 D.h.call.a)) (.int .i64 D.h.call.b)) (.int .i64 D.h.call.c)) (.int .i64 D.h.tim)) (.int .i64 D.h.whe)) (.bool D.h.had)) (.int .i64 D.h.cnt)) (.int .i64 D.h.beg)) (.int .i64 D.h.rep)) (.int .i64 D.h.out)) (.int .i64 D.v.kin)) (.int .i64 D.v.tim)) (.int .i64 D.v.gen)) (.int .i64 D.v.whe)) (.int .i64 D.v.clk))
  simp only [List.setIfInBounds_toArray, List.set_cons_zero, List.set_cons_succ] at hx
  exact hx
theorem b_set_done {W w : World} {n B : Nat} {D : Dn} {tv pv : Value} (hb : Below n W w) (hn : n ≤ B) :
    Below n W ((((((((((((((((((((w.setCell ⟨B, 0, none⟩ (.int .i64 D.m.c)).setCell ⟨B, 1, none⟩ (tv)).setCell ⟨B, 2, none⟩ (pv)).setCell ⟨B, 3, none⟩ (.int .i64 D.h.pos)).setCell ⟨B, 4, none⟩ (.int .i64 D.h.call.code)).setCell ⟨B, 5, none⟩ (.int .i64 D.h.call.a)).setCell ⟨B, 6, none⟩ (.int .i64 D.h.call.b)).setCell ⟨B, 7, none⟩ (.int .i64 D.h.call.c)).setCell ⟨B, 8, none⟩ (.int .i64 D.h.tim)).setCell ⟨B, 9, none⟩ (.int .i64 D.h.whe)).setCell ⟨B, 10, none⟩ (.bool D.h.had)).setCell ⟨B, 11, none⟩ (.int .i64 D.h.cnt)).setCell ⟨B, 12, none⟩ (.int .i64 D.h.beg)).setCell ⟨B, 13, none⟩ (.int .i64 D.h.rep)).setCell ⟨B, 14, none⟩ (.int .i64 D.h.out)).setCell ⟨B, 15, none⟩ (.int .i64 D.v.kin)).setCell ⟨B, 16, none⟩ (.int .i64 D.v.tim)).setCell ⟨B, 17, none⟩ (.int .i64 D.v.gen)).setCell ⟨B, 18, none⟩ (.int .i64 D.v.whe)).setCell ⟨B, 19, none⟩ (.int .i64 D.v.clk)) :=
  ((((((((((((((((((((hb.setCell (p := ⟨B, 0, none⟩) hn (.int .i64 D.m.c)).setCell (p := ⟨B, 1, none⟩) hn (tv)).setCell (p := ⟨B, 2, none⟩) hn (pv)).setCell (p := ⟨B, 3, none⟩) hn (.int .i64 D.h.pos)).setCell (p := ⟨B, 4, none⟩) hn (.int .i64 D.h.call.code)).setCell (p := ⟨B, 5, none⟩) hn (.int .i64 D.h.call.a)).setCell (p := ⟨B, 6, none⟩) hn (.int .i64 D.h.call.b)).setCell (p := ⟨B, 7, none⟩) hn (.int .i64 D.h.call.c)).setCell (p := ⟨B, 8, none⟩) hn (.int .i64 D.h.tim)).setCell (p := ⟨B, 9, none⟩) hn (.int .i64 D.h.whe)).setCell (p := ⟨B, 10, none⟩) hn (.bool D.h.had)).setCell (p := ⟨B, 11, none⟩) hn (.int .i64 D.h.cnt)).setCell (p := ⟨B, 12, none⟩) hn (.int .i64 D.h.beg)).setCell (p := ⟨B, 13, none⟩) hn (.int .i64 D.h.rep)).setCell (p := ⟨B, 14, none⟩) hn (.int .i64 D.h.out)).setCell (p := ⟨B, 15, none⟩) hn (.int .i64 D.v.kin)).setCell (p := ⟨B, 16, none⟩) hn (.int .i64 D.v.tim)).setCell (p := ⟨B, 17, none⟩) hn (.int .i64 D.v.gen)).setCell (p := ⟨B, 18, none⟩) hn (.int .i64 D.v.whe)).setCell (p := ⟨B, 19, none⟩) hn (.int .i64 D.v.clk))

theorem OwnMem.setDone {w : World} {B b : Nat} {tv pv : Value} {D : Dn} {cs : Array Value} {tv' pv' : Value} {N : Me} (h : OwnMem w B tv' pv' N) (g0 : w.heap[b]? = some (.cells cs 43 (0, 0))) :
    OwnMemIn ((((((((((((((((((((w.setCell ⟨b, 0, none⟩ (.int .i64 D.m.c)).setCell ⟨b, 1, none⟩ (tv)).setCell ⟨b, 2, none⟩ (pv)).setCell ⟨b, 3, none⟩ (.int .i64 D.h.pos)).setCell ⟨b, 4, none⟩ (.int .i64 D.h.call.code)).setCell ⟨b, 5, none⟩ (.int .i64 D.h.call.a)).setCell ⟨b, 6, none⟩ (.int .i64 D.h.call.b)).setCell ⟨b, 7, none⟩ (.int .i64 D.h.call.c)).setCell ⟨b, 8, none⟩ (.int .i64 D.h.tim)).setCell ⟨b, 9, none⟩ (.int .i64 D.h.whe)).setCell ⟨b, 10, none⟩ (.bool D.h.had)).setCell ⟨b, 11, none⟩ (.int .i64 D.h.cnt)).setCell ⟨b, 12, none⟩ (.int .i64 D.h.beg)).setCell ⟨b, 13, none⟩ (.int .i64 D.h.rep)).setCell ⟨b, 14, none⟩ (.int .i64 D.h.out)).setCell ⟨b, 15, none⟩ (.int .i64 D.v.kin)).setCell ⟨b, 16, none⟩ (.int .i64 D.v.tim)).setCell ⟨b, 17, none⟩ (.int .i64 D.v.gen)).setCell ⟨b, 18, none⟩ (.int .i64 D.v.whe)).setCell ⟨b, 19, none⟩ (.int .i64 D.v.clk)) B w.heap.size tv' pv' N := by
  have s0 := (KeepsBut.refl [43] w).set g0 (by decide) 0 (.int .i64 D.m.c)
  have g1 := block_setCell (i := 0) g0 (.int .i64 D.m.c)
  have s1 := s0.set g1 (by decide) 1 (tv)
  have g2 := block_setCell (i := 1) g1 (tv)
  have s2 := s1.set g2 (by decide) 2 (pv)
  have g3 := block_setCell (i := 2) g2 (pv)
  have s3 := s2.set g3 (by decide) 3 (.int .i64 D.h.pos)
  have g4 := block_setCell (i := 3) g3 (.int .i64 D.h.pos)
  have s4 := s3.set g4 (by decide) 4 (.int .i64 D.h.call.code)
  have g5 := block_setCell (i := 4) g4 (.int .i64 D.h.call.code)
  have s5 := s4.set g5 (by decide) 5 (.int .i64 D.h.call.a)
  have g6 := block_setCell (i := 5) g5 (.int .i64 D.h.call.a)
  have s6 := s5.set g6 (by decide) 6 (.int .i64 D.h.call.b)
  have g7 := block_setCell (i := 6) g6 (.int .i64 D.h.call.b)
  have s7 := s6.set g7 (by decide) 7 (.int .i64 D.h.call.c)
  have g8 := block_setCell (i := 7) g7 (.int .i64 D.h.call.c)
  have s8 := s7.set g8 (by decide) 8 (.int .i64 D.h.tim)
  have g9 := block_setCell (i := 8) g8 (.int .i64 D.h.tim)
  have s9 := s8.set g9 (by decide) 9 (.int .i64 D.h.whe)
  have g10 := block_setCell (i := 9) g9 (.int .i64 D.h.whe)
  have s10 := s9.set g10 (by decide) 10 (.bool D.h.had)
  have g11 := block_setCell (i := 10) g10 (.bool D.h.had)
  have s11 := s10.set g11 (by decide) 11 (.int .i64 D.h.cnt)
  have g12 := block_setCell (i := 11) g11 (.int .i64 D.h.cnt)
  have s12 := s11.set g12 (by decide) 12 (.int .i64 D.h.beg)
  have g13 := block_setCell (i := 12) g12 (.int .i64 D.h.beg)
  have s13 := s12.set g13 (by decide) 13 (.int .i64 D.h.rep)
  have g14 := block_setCell (i := 13) g13 (.int .i64 D.h.rep)
  have s14 := s13.set g14 (by decide) 14 (.int .i64 D.h.out)
  have g15 := block_setCell (i := 14) g14 (.int .i64 D.h.out)
  have s15 := s14.set g15 (by decide) 15 (.int .i64 D.v.kin)
  have g16 := block_setCell (i := 15) g15 (.int .i64 D.v.kin)
  have s16 := s15.set g16 (by decide) 16 (.int .i64 D.v.tim)
  have g17 := block_setCell (i := 16) g16 (.int .i64 D.v.tim)
  have s17 := s16.set g17 (by decide) 17 (.int .i64 D.v.gen)
  have g18 := block_setCell (i := 17) g17 (.int .i64 D.v.gen)
  have s18 := s17.set g18 (by decide) 18 (.int .i64 D.v.whe)
  have g19 := block_setCell (i := 18) g18 (.int .i64 D.v.whe)
  have s19 := s18.set g19 (by decide) 19 (.int .i64 D.v.clk)
  exact ⟨h.inn.1.keeps s19 (by decide), h.inn.2.keeps s19 (by decide) (by decide)⟩

abbrev etV (v : Et) : Value := .agg #[.int .i64 v.kin, .int .i64 v.tim, .int .i64 v.gen, .int .i64 v.whe, .int .i64 v.clk]
set_option maxRecDepth 100000 in
set_option maxHeartbeats 1000000 in
theorem eqEv_same (v : Et) (w : World) :
    Calls Tryz.prog 26 #[etV v, etV v] w fun e w' => e = .returned (.bool true) ∧ Below w.heap.size w w' := by
  go_enter Tryz.func26, Tryz.ntmps26
  go_wp2
  go_ret
  exact ⟨rfl, ((Below.refl _ _).alloc (Nat.le_refl _) _).alloc (by simp) _⟩

set_option maxRecDepth 100000 in
set_option maxHeartbeats 4000000 in
theorem eqDone_same {tv1 pv1 tv2 pv2 : Value} {D : Dn} {w : World} (hs : sizeM D.m ≤ 1048576) (h1 : MemAt w tv1 pv1 D.m) (h2 : MemAt w tv2 pv2 D.m) :
    Calls Tryz.prog 10 #[dnV D tv1 pv1, dnV D tv2 pv2] w fun e w' => e = .returned (.bool true) ∧ Below w.heap.size w w' := by
  have k0 := ((Below.refl w.heap.size w).alloc (Nat.le_refl _) (.cells (dnCells D tv1 pv1) 43)).alloc (by simp) (.cells (dnCells D tv2 pv2) 43)
  have hA := alloc_block (.cells (dnCells D tv2 pv2) 43) (heap_alloc_new w (.cells (dnCells D tv1 pv1) 43))
  have hB := heap_alloc_new (w.alloc (.cells (dnCells D tv1 pv1) 43)) (.cells (dnCells D tv2 pv2) 43)
  rw [show (w.alloc (.cells (dnCells D tv1 pv1) 43)).heap.size = w.heap.size + 1 by simp] at hB
  have HE := Lib.hid (fun (w' : World) (hb : Below w.heap.size w w') => eqMem_same hs (h1.below hb) (h2.below hb))
  clear h1 h2
  go_enter Tryz.func10, Tryz.ntmps10
  go_wp2_with fail
  go_at_call 11; refine (HE.out _ k0).mono ?_; rintro e w1 ⟨rfl, hb⟩
  replace hA := b_block hb hA (lt_of_block hA)
  replace hB := b_block hb hB (lt_of_block hB)
  have kw := k0.trans (hb.mono k0.size)
  clear hb HE k0
  obtain ⟨a0, a1, a2, a3, a4, a5, a6, a7, a8, a9, a10, a11, a12, a13, a14, a15, a16, a17, a18, a19, _, _, _, _, _, _, _, _, _, _, _, _, _, _, _, _, _, _, _, _⟩ := twenty hA
  obtain ⟨b0, b1, b2, b3, b4, b5, b6, b7, b8, b9, b10, b11, b12, b13, b14, b15, b16, b17, b18, b19, _, _, _, _, _, _, _, _, _, _, _, _, _, _, _, _, _, _, _, _⟩ := twenty hB
  go_wp2_with fail
  go_at_call 25; refine (eqHand_same _ _).mono ?_; rintro e w2 ⟨rfl, hb⟩
  replace hA := b_block hb hA (lt_of_block hA)
  replace hB := b_block hb hB (lt_of_block hB)
  replace kw := kw.trans (hb.mono kw.size)
  clear hb a0 b0 a1 b1 a2 b2 a3 b3 a4 b4 a5 b5 a6 b6 a7 b7 a8 b8 a9 b9 a10 b10 a11 b11 a12 b12 a13 b13 a14 b14 a15 b15 a16 b16 a17 b17 a18 b18 a19 b19
  obtain ⟨a0, a1, a2, a3, a4, a5, a6, a7, a8, a9, a10, a11, a12, a13, a14, a15, a16, a17, a18, a19, _, _, _, _, _, _, _, _, _, _, _, _, _, _, _, _, _, _, _, _⟩ := twenty hA
  obtain ⟨b0, b1, b2, b3, b4, b5, b6, b7, b8, b9, b10, b11, b12, b13, b14, b15, b16, b17, b18, b19, _, _, _, _, _, _, _, _, _, _, _, _, _, _, _, _, _, _, _, _⟩ := twenty hB
  go_wp2_with (go_at_call 26; refine (eqEv_same _ _).mono ?_; rintro e w3 ⟨rfl, hb⟩; replace kw := kw.trans (hb.mono kw.size); clear hb)
  go_ret
  exact ⟨rfl, kw⟩

set_option maxRecDepth 100000 in
set_option maxHeartbeats 4000000 in
theorem markDone_any {B C : Nat} {tv pv : Value} {D : Dn} {w : World} (q : Int) (hq0 : 0 ≤ q) (hq1 : q ≤ 4194304) (hs : sizeM D.m ≤ 1048576) (h : OwnMemIn w B C tv pv D.m) (hC : C ≤ w.heap.size) :
    Calls Tryz.prog 13 #[dnV D tv pv, .int .i64 q] w fun x w' => x = .returned (.int .i64 (markEnd D.m q)) ∧ OwnMemIn w' B C tv pv (markMe D.m q) ∧ Mid B C w w' := by
  have k0 := (Below.refl w.heap.size w).alloc (Nat.le_refl _) (.cells (dnCells D tv pv) 43)
  have HM := Lib.hid (markMem_any q hq0 hq1 hs (h.keep (Same.of_below k0 hC)) (Nat.le_trans hC k0.size))
  go_enter Tryz.func13, Tryz.ntmps13
  go_wp2_with (go_at_call 12; refine HM.out.mono ?_; rintro x w1 ⟨rfl, ho, hm⟩)
  go_ret
  exact ⟨rfl, ho, (Mid.of_below k0).trans hm⟩

set_option maxRecDepth 100000 in
set_option maxHeartbeats 4000000 in
theorem heldDone_any {tv pv : Value} {D : Dn} {w : World} (q : Int) (hq0 : 0 ≤ q) (hq1 : q ≤ 4194304) (hs : sizeM D.m ≤ 1048576) (h : MemAt w tv pv (markMe D.m q)) :
    Calls Tryz.prog 14 #[dnV D tv pv, .int .i64 q] w fun x w' => x = .returned (.int .i64 (markEnd D.m q)) ∧ Below w.heap.size w w' := by
  have k0 := (Below.refl w.heap.size w).alloc (Nat.le_refl _) (.cells (dnCells D tv pv) 43)
  have HM := Lib.hid (heldMem_any q hq0 hq1 hs (h.below k0))
  have d1 : decide (markEnd D.m q < 0) = false := by have := @markEnd_ge D.m q; simp; omega
  go_enter Tryz.func14, Tryz.ntmps14
  go_wp2_with (go_at_call 31; refine HM.out.mono ?_; rintro x w1 ⟨rfl, hb⟩)
  go_ret
  exact ⟨rfl, k0.trans (hb.mono k0.size)⟩


/-! ### a struct whose cells are a letter, stored at once -/
theorem there_of_cells {w : World} {b : Nat} {C : Array Value} {t : TypeId} (h : w.heap[b]? = some (.cells C t (0, 0))) : w.there b 0 C.size := fun j hj => by
  rw [Nat.zero_add, cell_of_block h j, unfrozen_of_block h j]
  exact ⟨by simp [hj], rfl⟩
theorem b_setCells {W : World} {n b : Nat} (hn : n ≤ b) : ∀ (vs : List Value) (o : Nat) {w : World}, Below n W w → Below n W (w.setCells b o vs)
  | [], _, _, h => h
  | v :: r, o, _, h => by rw [World.setCells]; exact b_setCells hn r (o + 1) (h.setCell (p := ⟨b, o, none⟩) hn v)
theorem heap_setCells_at {b : Nat} {t : TypeId} : ∀ (vs pre post : List Value) {w : World}, post.length = vs.length → w.heap[b]? = some (.cells (pre ++ post).toArray t (0, 0)) →
    (w.setCells b pre.length vs).heap[b]? = some (.cells (pre ++ vs).toArray t (0, 0))
  | [], pre, post, w, hl, h => by
    have : post = [] := List.eq_nil_of_length_eq_zero (by simpa using hl)
    subst this
    simpa [World.setCells] using h
  | v :: r, pre, [], w, hl, h => by simp at hl
  | v :: r, pre, p :: ps, w, hl, h => by
    have h1 := block_setCell (i := pre.length) h v
    have e : (pre ++ p :: ps).toArray.setIfInBounds pre.length v = ((pre ++ [v]) ++ ps).toArray := by simp
    rw [e] at h1
    have h2 := heap_setCells_at r (pre ++ [v]) ps (by simpa using hl) h1
    rw [World.setCells]
    simpa using h2
theorem heap_setCells {w : World} {b : Nat} {t : TypeId} {C cs : Array Value} (h : w.heap[b]? = some (.cells C t (0, 0))) (hl : cs.size = C.size) : (w.setCells b 0 cs.toList).heap[b]? = some (.cells cs t (0, 0)) := by
  have := heap_setCells_at (b := b) (t := t) cs.toList [] C.toList (w := w) (by simp [hl]) (by simpa using h)
  simpa using this
theorem keeps_setCells {T : List TypeId} {b : Nat} {t : TypeId} (ht : t ∈ T) : ∀ (vs : List Value) (o : Nat) {a w : World} {C : Array Value}, KeepsBut T a w → w.heap[b]? = some (.cells C t (0, 0)) → KeepsBut T a (w.setCells b o vs)
  | [], _, _, _, _, h, _ => h
  | v :: r, o, _, _, _, h, hb => by rw [World.setCells]; exact keeps_setCells ht r (o + 1) (h.set hb ht o v) (block_setCell (i := o) hb v)
theorem OwnMem.setCells {w : World} {B b : Nat} {tv' pv' : Value} {N : Me} {C : Array Value} (vs : List Value) (h : OwnMem w B tv' pv' N) (g0 : w.heap[b]? = some (.cells C 43 (0, 0))) :
    OwnMemIn (w.setCells b 0 vs) B w.heap.size tv' pv' N := by
  have s := keeps_setCells (T := [43]) (by decide) vs 0 (KeepsBut.refl [43] w) g0
  exact ⟨h.inn.1.keeps s (by decide), h.inn.2.keeps s (by decide) (by decide)⟩
theorem size_setCells (b : Nat) : ∀ (vs : List Value) (o : Nat) (w : World), (w.setCells b o vs).heap.size = w.heap.size
  | [], _, _ => rfl
  | v :: r, o, w => by rw [World.setCells, size_setCells b r]; simp
theorem run_store_letter {P : Program} {cs : Array Value} (h1 : cs.size = 20) (h2 : cs.all (·.oneCell') = true) (W : World) (b : Nat) (h3 : W.there b 0 20) : (storeCells ⟨b, 0, none⟩ cs.toList).run P W = .ok () (W.setCells b 0 cs.toList) := by
  have := run_storeCells_cells (P := P) b 0 cs.toList 0 W (fun j hj => by simpa using (h3 j (by simpa [h1] using hj)).1) (fun j hj => by simpa using (h3 j (by simpa [h1] using hj)).2) (fun v hv => (Array.all_eq_true_iff_forall_mem.1 h2) v (by simpa using hv))
  simpa using this

end Go.Proofs.YtflekodaiejflaaGreat

/-
  Tidying up (chapter 6): what the four functions answer, plainly.
-/
namespace Go.Proofs.YtflekodaiejflaaGreat
open Go.RowKit Go.Joins
set_option linter.unusedVariables false
set_option linter.unusedSimpArgs false

def NewMeB (M : Me) (q : Bool) (w : World) (e : Ending) (w' : World) : Prop := ∃ tv pv, e = .returned (.tuple #[meV M.c tv pv, .bool q]) ∧ OwnMem w' w.heap.size tv pv M ∧ Below w.heap.size w w'
def NewMeI (M : Me) (q : Int) (w : World) (e : Ending) (w' : World) : Prop := ∃ tv pv, e = .returned (.tuple #[meV M.c tv pv, .int .i64 q]) ∧ OwnMem w' w.heap.size tv pv M ∧ Below w.heap.size w w'
def timerOkM (a b c d : Int) (M : Me) : Bool := memOkB a b c M && hasT M d
def placeOkM (a b c d : Int) (M : Me) : Bool := memOkB a b c M && procB a b c d
def bothOkM (a b c d e : Int) (M : Me) : Bool := memOkB a b c M && (hasT M d && procB a b c e)
def armedG (a b c d e : Int) (M : Me) : Me := if bothOkM a b c d e M then armedM M d.toNat e.toNat else me0
def armedQ (a b c d e : Int) (M : Me) : Bool := bothOkM a b c d e M && armedB M d.toNat
def tidiedG (a b c d : Int) (M : Me) : Me := if placeOkM a b c d M then tidiedM M d.toNat else me0
def tidiedQ (a b c d : Int) (M : Me) : Bool := placeOkM a b c d M && tidiedB M d.toNat
def rungG (a b c d : Int) (M : Me) : Me := if placeOkM a b c d M then rungM M d.toNat else me0
def rungQ (a b c d : Int) (M : Me) : Int := if placeOkM a b c d M then rungI M d.toNat else -1
def rearmedG (a b c d : Int) (M : Me) : Me := if timerOkM a b c d M then rearmedM M d.toNat else me0
def rearmedQ (a b c d : Int) (M : Me) : Bool := timerOkM a b c d M && rearmedB M d.toNat
theorem timerOk_of {a b c d : Int} {M : Me} (h : timerOkM a b c d M = true) : MemFacts a b c M ∧ ∃ t : Nat, d = (t : Int) ∧ d.toNat = t ∧ t < M.tn := by
  rw [timerOkM, Bool.and_eq_true] at h
  have h2 := hasT_iff.1 h.2
  exact ⟨memFacts h.1, d.toNat, by omega, rfl, by omega⟩
theorem placeOk_of {a b c d : Int} {M : Me} (h : placeOkM a b c d M = true) : MemFacts a b c M ∧ ∃ k : Nat, d = (k : Int) ∧ d.toNat = k ∧ k < M.pn := by
  rw [placeOkM, Bool.and_eq_true] at h
  have h1 := memFacts h.1
  have h2 := (procB_iff.1 h.2).2
  have h3 := h1.pn.1
  exact ⟨h1, d.toNat, by omega, rfl, by omega⟩
theorem bothOk_of {a b c d e : Int} {M : Me} (h : bothOkM a b c d e M = true) : MemFacts a b c M ∧ (∃ t : Nat, d = (t : Int) ∧ d.toNat = t ∧ t < M.tn) ∧ ∃ k : Nat, e = (k : Int) ∧ e.toNat = k ∧ k < M.pn := by
  rw [bothOkM, Bool.and_eq_true, Bool.and_eq_true] at h
  exact ⟨memFacts h.1, (timerOk_of (b := b) (by rw [timerOkM, h.1, h.2.1]; rfl)).2, (placeOk_of (by rw [placeOkM, h.1, h.2.2]; rfl)).2⟩
theorem sizeM_zero : sizeM me0 ≤ 1048576 := by decide
theorem armedG_size (a b c d e : Int) {M : Me} (h : sizeM M ≤ 1048576) : sizeM (armedG a b c d e M) ≤ 1048576 := by
  unfold armedG
  split
  · rename_i h; exact (near_armed M _ _).size (bothOk_of h).1
  · exact sizeM_zero
theorem tidiedG_size (a b c d : Int) {M : Me} (h : sizeM M ≤ 1048576) : sizeM (tidiedG a b c d M) ≤ 1048576 := by
  unfold tidiedG
  split
  · rename_i h; exact (near_tidied M _).size (placeOk_of h).1
  · exact sizeM_zero
theorem rungG_size (a b c d : Int) {M : Me} (h : sizeM M ≤ 1048576) : sizeM (rungG a b c d M) ≤ 1048576 := by
  unfold rungG
  split
  · rename_i h; exact (near_rung M _).size (placeOk_of h).1
  · exact sizeM_zero
theorem rearmedG_size (a b c d : Int) {M : Me} (h : sizeM M ≤ 1048576) : sizeM (rearmedG a b c d M) ≤ 1048576 := by
  unfold rearmedG
  split
  · rename_i h; exact (near_rearmed M _).size (timerOk_of h).1
  · exact sizeM_zero

end Go.Proofs.YtflekodaiejflaaGreat

/-
  A time, and that much later (chapter 1): the model's After.
-/
namespace Go.Proofs.YtflekodaiejflaaGreat
open Go.RowKit
set_option linter.unusedVariables false
set_option linter.unusedSimpArgs false

/-- a delay, cut -/
def dl (d : Int) : Int := if d < 0 then 0 else if 1000000000 < d then 1000000000 else d
def afterI (t d : Int) : Int := if inB t 0 1000000000 then (if 1000000000 < t + dl d then 1000000000 else t + dl d) else -1
theorem afterI_no {t d : Int} (h : inB t 0 1000000000 = false) : afterI t d = -1 := by simp [afterI, h]
theorem afterI_neg {t d : Int} (h : inB t 0 1000000000 = true) (h1 : d < 0) : afterI t d = t := by
  have := inB_iff.1 h
  simp only [afterI, h, dl, if_pos h1, if_true]
  split <;> omega
theorem afterI_far {t d : Int} (h : inB t 0 1000000000 = true) (h1 : 1000000000 < t + d) (h2 : 0 ≤ d) : afterI t d = 1000000000 := by
  have := inB_iff.1 h
  simp only [afterI, h, dl, if_true]
  split <;> split at * <;> (try split at *) <;> omega
theorem afterI_in {t d : Int} (h : inB t 0 1000000000 = true) (h1 : t + d ≤ 1000000000) (h2 : 0 ≤ d) : afterI t d = t + d := by
  have := inB_iff.1 h
  simp only [afterI, h, dl, if_true]
  split <;> split at * <;> (try split at *) <;> omega

theorem dl_eq (d : Int) : maxI 0 (minI d 1000000000) = dl d := by
  unfold maxI minI dl
  (repeat' split) <;> omega
theorem dl_bd (d : Int) : 0 ≤ dl d ∧ dl d ≤ 1000000000 := by unfold dl; split <;> (try split) <;> omega
theorem afterI_min {t d : Int} (h : inB t 0 1000000000 = true) : afterI t d = minI (t + dl d) 1000000000 := by
  simp only [afterI, h, minI, if_true]
  split <;> split <;> omega
set_option maxHeartbeats 400000 in
theorem spAfter_any (t d : Int) (w : World) :
    Calls Tryz.prog 66 #[.int .i64 t, .int .i64 d] w fun e w' => e = .returned (.int .i64 (afterI t d)) ∧ w = w' := by
  cases h1 : inB t 0 1000000000
  · rw [afterI_no h1]
    go_enter Tryz.func66, Tryz.ntmps66
    go_wp2_with (go_at_call 92; refine (l1Time_any _ _).mono ?_; rintro e w' ⟨rfl, rfl⟩)
    go_ret
    exact ⟨rfl, rfl⟩
  · obtain ⟨b1, b2⟩ := inB_iff.1 h1
    obtain ⟨b3, b4⟩ := dl_bd d
    have hd := Lib.hid (dl_eq d)
    rw [afterI_min h1]
    go_enter Tryz.func66, Tryz.ntmps66
    go_wp2_with (first
      | (go_at_call 92; refine (l1Time_any _ _).mono ?_; rintro e w' ⟨rfl, rfl⟩)
      | (go_at_call 67; refine (l1Min_any _ _ _).mono ?_; rintro e w' ⟨rfl, rfl⟩)
      | (go_at_call 41; refine (l1Max_any _ _ _).mono ?_; rintro e w' ⟨rfl, rfl⟩; rw [hd.out]))
    go_ret
    exact ⟨rfl, rfl⟩

end Go.Proofs.YtflekodaiejflaaGreat

/-
  The steps of a worker, plainly (chapters 9 to 14): what comes of each. No Go in sight.
-/
namespace Go.Proofs.YtflekodaiejflaaGreat
open Go.RowKit Go.Joins
set_option linter.unusedVariables false
set_option linter.unusedSimpArgs false

/-! ### chapter 9 -/
/-- is the step fit? -/
def stepFit (a b c d : Int) (M : Me) (h : Hd) : Bool := memOkB a b c M && (handB a b c h && (workB a b c d && (h.tim == -1 || hasT M h.tim)))
def addTm (M : Me) (T : Tm) : Me := { M with tn := M.tn + 1, t := putT M.t M.tn T }
/-- locked by a worker, where it is free, and where the worker is then -/
def lockD (D : Dn) (d : Int) (k : Nat) (q : Int) : Dn := if (D.m.p k).l = -1 then ⟨setPc D.m k 1 d, { D.h with pos := q }, D.v⟩ else D
def unlockM (M : Me) (d : Int) (k : Nat) : Me := if (M.p k).l = d then setPc M k 1 (-1) else M
def evI (M : Me) (kind : Int) (t : Nat) (when : Int) : Et := ⟨kind, (t : Int), (M.t t).ge, when, M.c⟩
def newTm (D : Dn) : Tm := ⟨2, afterI D.m.c D.h.call.b, 0, D.h.call.c, -1, 0, D.h.call.a, 0⟩
def allocD (c : Int) (D : Dn) : Dn := if c ≤ (D.m.tn : Int) then ⟨D.m, restHd 4 0, D.v⟩ else ⟨addTm D.m (newTm D), { D.h with tim := (D.m.tn : Int), pos := 2 }, D.v⟩
def pushOk (D : Dn) : Bool := decide (0 ≤ D.h.tim) && armedB D.m D.h.tim.toNat
def keyedM (D : Dn) : Me := if D.h.call.code = 3 then setTm D.m D.h.tim.toNat 1 D.h.whe else D.m
def genM (M : Me) (t : Nat) : Me := setTm M t 5 (minI ((M.t t).ge + 1) 100000)
def pushedM (D : Dn) (k : Nat) : Me := pushM (genM (keyedM D) D.h.tim.toNat) D.h.tim.toNat k
def pushD (D : Dn) (k : Nat) : Dn := ⟨pushedM D k, { D.h with pos := 4 }, evI (pushedM D k) 1 D.h.tim.toNat ((pushedM D k).t D.h.tim.toNat).wh⟩
def freeD (D : Dn) (d : Int) (k : Nat) : Dn := ⟨unlockM D.m d k, if D.h.call.code = 3 then restHd 3 0 else restHd 1 (maxI D.h.tim 0), D.v⟩
def createB (D : Dn) : Bool := if D.h.pos = 1 then D.h.call.code == 1 else if D.h.pos = 2 then true else if D.h.pos = 3 then pushOk D else true
def createD (c d : Int) (k : Nat) (D : Dn) : Dn := if D.h.pos = 1 then allocD c D else if D.h.pos = 2 then lockD D d k 3 else if D.h.pos = 3 then pushD D k else freeD D d k
def homeN (a d : Int) : Nat := (d % a).toNat
def createQ (a b c d : Int) (M : Me) (h : Hd) : Bool := stepFit a b c d M h && (inB h.pos 1 4 && createB ⟨M, h, et0⟩)
def createG (a b c d : Int) (M : Me) (h : Hd) : Dn := if createQ a b c d M h then createD c d (homeN a d) ⟨M, h, et0⟩ else dn0

/-! ### chapter 10 -/
/-- when it will ring next, as it stands -/
def effT (t : Tm) : Int := if t.st = 1 ∨ t.st = 6 then t.wh else if t.st = 3 ∨ t.st = 4 then t.nx else -1
/-- about to be changed, and what is told of it -/
def claimD (D : Dn) (t : Nat) : Dn := ⟨setTm D.m t 0 2, { D.h with tim := (t : Int) }, if 0 ≤ effT (D.m.t t) then evI D.m 2 t (effT (D.m.t t)) else D.v⟩
def stopLookD (D : Dn) : Dn :=
  if hasT D.m D.h.call.a then
    (let t := D.h.call.a.toNat
     let s := (D.m.t t).st
     if s = 1 ∨ s = 3 ∨ s = 4 then ⟨(claimD D t).m, { (claimD D t).h with pos := 6 }, (claimD D t).v⟩ else if s = 2 ∨ s = 6 then D else ⟨D.m, restHd 3 0, D.v⟩)
  else ⟨D.m, restHd 5 0, D.v⟩
/-- is the hand's timer one that it may change where it stands in a heap? -/
def mineB (D : Dn) : Bool := decide (0 ≤ D.h.tim) && ((D.m.t D.h.tim.toNat).st == 2 && (D.m.t D.h.tim.toNat).pl != -1)
def turnD (D : Dn) : Dn :=
  let t := D.h.tim.toNat
  let k := (D.m.t t).pl.toNat
  ⟨setPc (setTm D.m t 0 5) k 3 ((D.m.p k).d + 1), restHd 2 0, D.v⟩
def stopB (D : Dn) : Bool := if D.h.pos = 5 then true else mineB D
def stopD (D : Dn) : Dn := if D.h.pos = 5 then stopLookD D else turnD D
def stopQ (a b c d : Int) (M : Me) (h : Hd) : Bool := stepFit a b c d M h && (((h.pos == 5 && h.call.code == 2) || h.pos == 6) && stopB ⟨M, h, et0⟩)
def stopG (a b c d : Int) (M : Me) (h : Hd) : Dn := if stopQ a b c d M h then stopD ⟨M, h, et0⟩ else dn0

/-! ### chapter 11 -/
def resetLookD (D : Dn) : Dn :=
  if hasT D.m D.h.call.a then
    (let t := D.h.call.a.toNat
     let s := (D.m.t t).st
     if s = 2 ∨ s = 6 then D else
     let E := claimD D t
     let h := { E.h with whe := afterI D.m.c D.h.call.b, pos := 7 }
     if s = 1 ∨ s = 3 ∨ s = 4 then ⟨E.m, { h with had := true }, E.v⟩ else
     if s = 5 then ⟨setPc E.m (D.m.t t).pl.toNat 3 ((D.m.p (D.m.t t).pl.toNat).d - 1), h, E.v⟩ else ⟨E.m, { h with pos := 2 }, E.v⟩)
  else ⟨D.m, restHd 5 0, D.v⟩
def keyM (D : Dn) : Me :=
  let t := D.h.tim.toNat
  let x := D.m.t t
  let k := x.pl.toNat
  let m := setTm (genM D.m t) t 2 D.h.whe
  if D.h.whe < x.wh then (let m2 := setTm m t 0 3; if (D.m.p k).e < 0 ∨ D.h.whe < (D.m.p k).e then setPc m2 k 2 D.h.whe else m2) else setTm m t 0 4
def keyD (D : Dn) : Dn := ⟨keyM D, if D.h.had then restHd 2 0 else restHd 3 0, evI (keyM D) 1 D.h.tim.toNat D.h.whe⟩
def resetB (D : Dn) : Bool := if D.h.pos = 5 then true else mineB D
def resetD (D : Dn) : Dn := if D.h.pos = 5 then resetLookD D else keyD D
def resetQ (a b c d : Int) (M : Me) (h : Hd) : Bool := stepFit a b c d M h && (((h.pos == 5 && h.call.code == 3) || h.pos == 7) && resetB ⟨M, h, et0⟩)
def resetG (a b c d : Int) (M : Me) (h : Hd) : Dn := if resetQ a b c d M h then resetD ⟨M, h, et0⟩ else dn0

/-! ### chapter 12 -/
def ringD (D : Dn) (k : Nat) : Dn :=
  if rungB D.m k then (let t := slotT D.m k 0; ⟨rungM D.m k, { D.h with tim := (t : Int), pos := 11 }, evI (rungM D.m k) 3 t ((rungM D.m k).t t).wh⟩) else
  if (D.m.p k).n = 0 then ⟨D.m, { D.h with pos := 13 }, D.v⟩ else
  let x := D.m.t (slotT D.m k 0)
  if x.st = 5 ∨ x.st = 3 ∨ x.st = 4 then ⟨D.m, { D.h with pos := 9 }, D.v⟩ else
  if x.st = 2 then (if D.m.c < x.wh then ⟨D.m, { D.h with pos := 13 }, D.v⟩ else D) else ⟨D.m, { D.h with pos := 13 }, D.v⟩
def tellD (D : Dn) : Dn :=
  let t := D.h.tim.toNat
  ⟨if (D.m.t t).ki = 0 ∧ (D.m.t t).ma = 0 then setTm D.m t 7 (D.m.c + 1) else D.m, { D.h with cnt := minI (D.h.cnt + 1) 1000, pos := 10 }, D.v⟩
def checkB (d : Int) (k : Nat) (D : Dn) : Bool :=
  !(inB D.h.pos 9 11 && (D.m.p k).l != d) && (!((D.h.pos == 11 || D.h.pos == 12) && decide (D.h.tim < 0)) &&
  (if D.h.pos = 11 then (D.m.t D.h.tim.toNat).pl == (k : Int) && rearmedB D.m D.h.tim.toNat else true))
def checkD (d : Int) (k : Nat) (D : Dn) : Dn :=
  if D.h.pos = 8 then lockD D d k 9 else
  if D.h.pos = 9 then ⟨tidiedM D.m k, if tidiedB D.m k then D.h else { D.h with pos := 10 }, D.v⟩ else
  if D.h.pos = 10 then ringD D k else
  if D.h.pos = 11 then ⟨rearmedM D.m D.h.tim.toNat, { D.h with pos := 12 }, D.v⟩ else
  if D.h.pos = 12 then tellD D else ⟨unlockM D.m d k, restHd 1 D.h.cnt, D.v⟩
def checkQ (a b c d : Int) (M : Me) (h : Hd) : Bool := stepFit a b c d M h && ((inB h.pos 8 13 && h.call.code == 4) && checkB d h.call.a.toNat ⟨M, h, et0⟩)
def checkG (a b c d : Int) (M : Me) (h : Hd) : Dn := if checkQ a b c d M h then checkD d h.call.a.toNat ⟨M, h, et0⟩ else dn0

/-! ### chapter 13 -/
def shiftB (d : Int) (p q : Nat) (D : Dn) : Bool :=
  ((D.m.p p).l == d && (D.m.p q).l == d) && !(decide (0 < (D.m.p p).n) && (D.m.t (slotT D.m p 0)).st == 6)
def shiftD (p q : Nat) (D : Dn) : Dn :=
  if (D.m.p p).n = 0 then ⟨setPc D.m p 2 (-1), { D.h with pos := 17 }, D.v⟩ else
  let t := slotT D.m p 0
  let x := D.m.t t
  if x.st = 2 then D else
  if x.st = 5 then ⟨dropM D.m p 0 t, D.h, D.v⟩ else
  let m := if x.st = 3 ∨ x.st = 4 then setTm D.m t 1 x.nx else D.m
  ⟨pushM (pullM m p 0) t q, { D.h with cnt := minI (D.h.cnt + 1) 1000 }, D.v⟩
def moveB (d : Int) (p q : Nat) (D : Dn) : Bool := if D.h.pos = 16 then shiftB d p q D else true
def moveD (d : Int) (p q : Nat) (D : Dn) : Dn :=
  if D.h.pos = 14 then lockD D d (min p q) 15 else if D.h.pos = 15 then lockD D d (max p q) 16 else
  if D.h.pos = 16 then shiftD p q D else ⟨unlockM (unlockM D.m d p) d q, restHd 1 D.h.cnt, D.v⟩
def moveQ (a b c d : Int) (M : Me) (h : Hd) : Bool := stepFit a b c d M h && ((inB h.pos 14 17 && h.call.code == 5) && moveB d h.call.a.toNat h.call.b.toNat ⟨M, h, et0⟩)
def moveG (a b c d : Int) (M : Me) (h : Hd) : Dn := if moveQ a b c d M h then moveD d h.call.a.toNat h.call.b.toNat ⟨M, h, et0⟩ else dn0

/-! ### chapter 14 -/
def takeD (D : Dn) : Dn :=
  if hasT D.m D.h.call.a then
    (let t := D.h.call.a.toNat
     if (D.m.t t).ma = 0 then ⟨D.m, restHd 3 0, D.v⟩ else ⟨setTm D.m t 7 0, restHd 2 ((D.m.t t).ma - 1), D.v⟩)
  else ⟨D.m, restHd 5 0, D.v⟩
def takeQ (a b c d : Int) (M : Me) (h : Hd) : Bool := stepFit a b c d M h && (inB h.pos 18 18 && h.call.code == 6)
def takeG (a b c d : Int) (M : Me) (h : Hd) : Dn := if takeQ a b c d M h then takeD ⟨M, h, et0⟩ else dn0
def anyQ (a b c d : Int) (M : Me) (h : Hd) : Bool :=
  if (h.pos = 5 ∧ h.call.code = 2) ∨ h.pos = 6 then stopQ a b c d M h else if h.pos = 5 ∨ h.pos = 7 then resetQ a b c d M h else
  if h.pos ≤ 4 then createQ a b c d M h else if h.pos ≤ 13 then checkQ a b c d M h else if h.pos ≤ 17 then moveQ a b c d M h else takeQ a b c d M h
def anyG (a b c d : Int) (M : Me) (h : Hd) : Dn :=
  if (h.pos = 5 ∧ h.call.code = 2) ∨ h.pos = 6 then stopG a b c d M h else if h.pos = 5 ∨ h.pos = 7 then resetG a b c d M h else
  if h.pos ≤ 4 then createG a b c d M h else if h.pos ≤ 13 then checkG a b c d M h else if h.pos ≤ 17 then moveG a b c d M h else takeG a b c d M h
def stepQ (a b c d : Int) (M : Me) (h : Hd) : Bool := anyQ a b c d M h && memOkB a b c (anyG a b c d M h).m
def stepG (a b c d : Int) (M : Me) (h : Hd) : Dn := if stepQ a b c d M h then anyG a b c d M h else dn0

/-! ### sizes -/
theorem stepFit_facts {a b c d : Int} {M : Me} {h : Hd} (hq : stepFit a b c d M h = true) : MemFacts a b c M := by
  rw [stepFit, Bool.and_eq_true] at hq
  exact memFacts hq.1
theorem near_sets (M : Me) (k j : Nat) (x : Int) : Near M (setPc M k j x) := ⟨rfl, rfl, rfl, fun i => by rw [setPc_n]; exact Nat.le_succ _⟩

end Go.Proofs.YtflekodaiejflaaGreat
