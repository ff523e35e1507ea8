/-
  Calls, in the program: what its code names, and what is not named is nought.
-/
import Derived.Test.YtngbcpmhejeheaaGreatDoorL04
import Derived.Test.YtngbcpmhejeheaaGreatDoorL09
import Derived.Defers
import Derived.Recover
import Derived.Test.YtngbcpmhejeheaaGreatDoorL03
import Derived.Test.YtngbcpmhejeheaaGreatDoorL01
import Derived.Test.YtngbcpmhejeheaaGreatDoorL05
import Derived.Test.YtngbcpmhejeheaaGreatDoorL08
import Derived.Test.YtngbcpmhejeheaaGreatDoorL02
import Derived.Test.YtngbcpmhejeheaaGreatDoorL07
namespace Go.Proofs.YtngbcpmhejeheaaGreatDoor
open Go.RowKit Go.Joins
set_option linter.unusedVariables false
set_option linter.unusedSimpArgs false

/-- there may be such a timer -/
def mayB (a b c t : Int) : Bool := planB a b c && inB t 0 (c - 1)
def imNamedB (a b c : Int) (q : Ca) : Bool :=
  if q.code = 1 then inB q.a 0 1 && (inB q.b 0 1000000000 && inB q.c 0 1000000000) else
  if q.code = 2 then mayB a b c q.a else
  if q.code = 3 then mayB a b c q.a && inB q.b 0 1000000000 else
  if q.code = 4 then procB a b c q.a else
  if q.code = 5 then procB a b c q.a && (procB a b c q.b && q.a != q.b) else
  if q.code = 6 then mayB a b c q.a else false
def imRestB (q : Ca) : Bool :=
  if q.code = 2 ∨ q.code = 4 ∨ q.code = 6 then q.b == 0 && q.c == 0 else if q.code = 3 ∨ q.code = 5 then q.c == 0 else true
theorem im_named {a b c : Int} {q : Ca} (h : planB a b c = true) : (imNamedB a b c q && imRestB q) = callB a b c q := by
  obtain ⟨k, x, y, z⟩ := q
  simp only [callB, h, imNamedB, imRestB, namedB, mayB, Bool.true_and]
  by_cases c1 : k = 1
  · subst c1; simp
  by_cases c2 : k = 2
  · subst c2; simp
  by_cases c3 : k = 3
  · subst c3; simp [Bool.and_assoc]
  by_cases c4 : k = 4
  · subst c4; simp
  by_cases c5 : k = 5
  · subst c5; simp [Bool.and_assoc]
  by_cases c6 : k = 6
  · subst c6; simp
  simp [c1, c2, c3, c4, c5, c6]

set_option maxHeartbeats 400000 in
theorem mayHave_any (a b c n : Int) (w : World) :
    Calls Tryz.prog 126 #[.agg #[.int .i64 a, .int .i64 b, .int .i64 c], .int .i64 n] w fun e w' => e = .returned (.bool (mayB a b c n)) ∧ Below w.heap.size w w' := by
  have k0 := (Below.refl w.heap.size w).alloc (Nat.le_refl _) (.cells #[.int .i64 a, .int .i64 b, .int .i64 c] 46)
  have kk := Below.refl (w.alloc (.cells #[.int .i64 a, .int .i64 b, .int .i64 c] 46)).heap.size (w.alloc (.cells #[.int .i64 a, .int .i64 b, .int .i64 c] 46))
  cases h1 : planB a b c
  · skip
    rw [show mayB a b c n = false by simp [mayB, h1]]
    go_enter Tryz.func126, Tryz.ntmps126
    go_wp2_with (first
      | (go_at_call 110; refine (right_any _ _ _ _).mono ?_; rintro e w1 ⟨rfl, hb⟩; replace kk := kk.trans (hb.mono kk.size); clear hb; (try clear hc hf); obtain ⟨hc, hf⟩ := bcell kk)
      | (go_at_call 114; refine (within_any _ _ _ _).mono ?_; rintro e w' ⟨rfl, rfl⟩))
    go_ret
    exact ⟨ret_bool' (by simp), k0.trans (kk.mono k0.size)⟩
  obtain ⟨⟨b2, b3⟩, ⟨b5, b6⟩, b1, b4⟩ := planB_iff.1 h1
  go_enter Tryz.func126, Tryz.ntmps126
  go_wp2_with (first
    | (go_at_call 110; refine (right_any _ _ _ _).mono ?_; rintro e w1 ⟨rfl, hb⟩; replace kk := kk.trans (hb.mono kk.size); clear hb; (try clear hc hf); obtain ⟨hc, hf⟩ := bcell kk)
    | (go_at_call 114; refine (within_any _ _ _ _).mono ?_; rintro e w' ⟨rfl, rfl⟩))
  go_ret
  exact ⟨ret_bool' (by simp [mayB, h1]), k0.trans (kk.mono k0.size)⟩

set_option maxRecDepth 100000 in
set_option maxHeartbeats 4000000 in
theorem named_four (a b c k x y z : Int) (w : World) :
    Calls Tryz.prog 139 #[.agg #[.int .i64 k, .int .i64 x, .int .i64 y, .int .i64 z], .agg #[.int .i64 a, .int .i64 b, .int .i64 c]] w fun e w' => e = .returned (.bool (imNamedB a b c ⟨k, x, y, z⟩)) ∧ Below w.heap.size w w' := by
  have k0 := ((Below.refl w.heap.size w).alloc (Nat.le_refl _) (.cells #[.int .i64 k, .int .i64 x, .int .i64 y, .int .i64 z] 37)).alloc (by simp) (.cells #[.int .i64 a, .int .i64 b, .int .i64 c] 46)
  have kk := Below.refl ((w.alloc (.cells #[.int .i64 k, .int .i64 x, .int .i64 y, .int .i64 z] 37)).alloc (.cells #[.int .i64 a, .int .i64 b, .int .i64 c] 46)).heap.size ((w.alloc (.cells #[.int .i64 k, .int .i64 x, .int .i64 y, .int .i64 z] 37)).alloc (.cells #[.int .i64 a, .int .i64 b, .int .i64 c] 46))
  by_cases c1 : k = 1
  case pos =>
    subst c1
    cases h2 : inB x 0 1
    · skip
      rw [show imNamedB a b c ⟨1, x, y, z⟩ = false by simp [imNamedB, h2]]
      go_enter Tryz.func139, Tryz.ntmps139
      go_wp2_with (first
        | (go_at_call 126; refine (mayHave_any _ _ _ _ _).mono ?_; rintro e w1 ⟨rfl, hb⟩; replace kk := kk.trans (hb.mono kk.size); clear hb; (try clear hc hf); obtain ⟨hc, hf⟩ := bcell kk)
        | (go_at_call 141; refine (hasProc_any _ _ _ _ _).mono ?_; rintro e w1 ⟨rfl, hb⟩; replace kk := kk.trans (hb.mono kk.size); clear hb; (try clear hc hf); obtain ⟨hc, hf⟩ := bcell kk)
        | (go_at_call 114; refine (within_any _ _ _ _).mono ?_; rintro e w' ⟨rfl, rfl⟩)
        | (go_at_call 125; refine (isTime_any _ _).mono ?_; rintro e w' ⟨rfl, rfl⟩))
      go_ret
      exact ⟨ret_bool' (by simp), k0.trans (kk.mono k0.size)⟩
    cases h3 : inB y 0 1000000000
    · skip
      rw [show imNamedB a b c ⟨1, x, y, z⟩ = false by simp [imNamedB, h2, h3]]
      go_enter Tryz.func139, Tryz.ntmps139
      go_wp2_with (first
        | (go_at_call 126; refine (mayHave_any _ _ _ _ _).mono ?_; rintro e w1 ⟨rfl, hb⟩; replace kk := kk.trans (hb.mono kk.size); clear hb; (try clear hc hf); obtain ⟨hc, hf⟩ := bcell kk)
        | (go_at_call 141; refine (hasProc_any _ _ _ _ _).mono ?_; rintro e w1 ⟨rfl, hb⟩; replace kk := kk.trans (hb.mono kk.size); clear hb; (try clear hc hf); obtain ⟨hc, hf⟩ := bcell kk)
        | (go_at_call 114; refine (within_any _ _ _ _).mono ?_; rintro e w' ⟨rfl, rfl⟩)
        | (go_at_call 125; refine (isTime_any _ _).mono ?_; rintro e w' ⟨rfl, rfl⟩))
      go_ret
      exact ⟨ret_bool' (by simp), k0.trans (kk.mono k0.size)⟩
    go_enter Tryz.func139, Tryz.ntmps139
    go_wp2_with (first
      | (go_at_call 126; refine (mayHave_any _ _ _ _ _).mono ?_; rintro e w1 ⟨rfl, hb⟩; replace kk := kk.trans (hb.mono kk.size); clear hb; (try clear hc hf); obtain ⟨hc, hf⟩ := bcell kk)
      | (go_at_call 141; refine (hasProc_any _ _ _ _ _).mono ?_; rintro e w1 ⟨rfl, hb⟩; replace kk := kk.trans (hb.mono kk.size); clear hb; (try clear hc hf); obtain ⟨hc, hf⟩ := bcell kk)
      | (go_at_call 114; refine (within_any _ _ _ _).mono ?_; rintro e w' ⟨rfl, rfl⟩)
      | (go_at_call 125; refine (isTime_any _ _).mono ?_; rintro e w' ⟨rfl, rfl⟩))
    go_ret
    exact ⟨ret_bool' (by simp [imNamedB, h2, h3]), k0.trans (kk.mono k0.size)⟩
  by_cases c2 : k = 2
  case pos =>
    subst c2
    go_enter Tryz.func139, Tryz.ntmps139
    go_wp2_with (first
      | (go_at_call 126; refine (mayHave_any _ _ _ _ _).mono ?_; rintro e w1 ⟨rfl, hb⟩; replace kk := kk.trans (hb.mono kk.size); clear hb; (try clear hc hf); obtain ⟨hc, hf⟩ := bcell kk)
      | (go_at_call 141; refine (hasProc_any _ _ _ _ _).mono ?_; rintro e w1 ⟨rfl, hb⟩; replace kk := kk.trans (hb.mono kk.size); clear hb; (try clear hc hf); obtain ⟨hc, hf⟩ := bcell kk)
      | (go_at_call 114; refine (within_any _ _ _ _).mono ?_; rintro e w' ⟨rfl, rfl⟩)
      | (go_at_call 125; refine (isTime_any _ _).mono ?_; rintro e w' ⟨rfl, rfl⟩))
    go_ret
    exact ⟨ret_bool' (by simp [imNamedB]), k0.trans (kk.mono k0.size)⟩
  by_cases c3 : k = 3
  case pos =>
    subst c3
    cases h2 : mayB a b c x
    · skip
      rw [show imNamedB a b c ⟨3, x, y, z⟩ = false by simp [imNamedB, h2]]
      go_enter Tryz.func139, Tryz.ntmps139
      go_wp2_with (first
        | (go_at_call 126; refine (mayHave_any _ _ _ _ _).mono ?_; rintro e w1 ⟨rfl, hb⟩; replace kk := kk.trans (hb.mono kk.size); clear hb; (try clear hc hf); obtain ⟨hc, hf⟩ := bcell kk)
        | (go_at_call 141; refine (hasProc_any _ _ _ _ _).mono ?_; rintro e w1 ⟨rfl, hb⟩; replace kk := kk.trans (hb.mono kk.size); clear hb; (try clear hc hf); obtain ⟨hc, hf⟩ := bcell kk)
        | (go_at_call 114; refine (within_any _ _ _ _).mono ?_; rintro e w' ⟨rfl, rfl⟩)
        | (go_at_call 125; refine (isTime_any _ _).mono ?_; rintro e w' ⟨rfl, rfl⟩))
      go_ret
      exact ⟨ret_bool' (by simp), k0.trans (kk.mono k0.size)⟩
    go_enter Tryz.func139, Tryz.ntmps139
    go_wp2_with (first
      | (go_at_call 126; refine (mayHave_any _ _ _ _ _).mono ?_; rintro e w1 ⟨rfl, hb⟩; replace kk := kk.trans (hb.mono kk.size); clear hb; (try clear hc hf); obtain ⟨hc, hf⟩ := bcell kk)
      | (go_at_call 141; refine (hasProc_any _ _ _ _ _).mono ?_; rintro e w1 ⟨rfl, hb⟩; replace kk := kk.trans (hb.mono kk.size); clear hb; (try clear hc hf); obtain ⟨hc, hf⟩ := bcell kk)
      | (go_at_call 114; refine (within_any _ _ _ _).mono ?_; rintro e w' ⟨rfl, rfl⟩)
      | (go_at_call 125; refine (isTime_any _ _).mono ?_; rintro e w' ⟨rfl, rfl⟩))
    go_ret
    exact ⟨ret_bool' (by simp [imNamedB, h2]), k0.trans (kk.mono k0.size)⟩
  by_cases c4 : k = 4
  case pos =>
    subst c4
    go_enter Tryz.func139, Tryz.ntmps139
    go_wp2_with (first
      | (go_at_call 126; refine (mayHave_any _ _ _ _ _).mono ?_; rintro e w1 ⟨rfl, hb⟩; replace kk := kk.trans (hb.mono kk.size); clear hb; (try clear hc hf); obtain ⟨hc, hf⟩ := bcell kk)
      | (go_at_call 141; refine (hasProc_any _ _ _ _ _).mono ?_; rintro e w1 ⟨rfl, hb⟩; replace kk := kk.trans (hb.mono kk.size); clear hb; (try clear hc hf); obtain ⟨hc, hf⟩ := bcell kk)
      | (go_at_call 114; refine (within_any _ _ _ _).mono ?_; rintro e w' ⟨rfl, rfl⟩)
      | (go_at_call 125; refine (isTime_any _ _).mono ?_; rintro e w' ⟨rfl, rfl⟩))
    go_ret
    exact ⟨ret_bool' (by simp [imNamedB]), k0.trans (kk.mono k0.size)⟩
  by_cases c5 : k = 5
  case pos =>
    subst c5
    cases h2 : procB a b c x
    · skip
      rw [show imNamedB a b c ⟨5, x, y, z⟩ = false by simp [imNamedB, h2]]
      go_enter Tryz.func139, Tryz.ntmps139
      go_wp2_with (first
        | (go_at_call 126; refine (mayHave_any _ _ _ _ _).mono ?_; rintro e w1 ⟨rfl, hb⟩; replace kk := kk.trans (hb.mono kk.size); clear hb; (try clear hc hf); obtain ⟨hc, hf⟩ := bcell kk)
        | (go_at_call 141; refine (hasProc_any _ _ _ _ _).mono ?_; rintro e w1 ⟨rfl, hb⟩; replace kk := kk.trans (hb.mono kk.size); clear hb; (try clear hc hf); obtain ⟨hc, hf⟩ := bcell kk)
        | (go_at_call 114; refine (within_any _ _ _ _).mono ?_; rintro e w' ⟨rfl, rfl⟩)
        | (go_at_call 125; refine (isTime_any _ _).mono ?_; rintro e w' ⟨rfl, rfl⟩))
      go_ret
      exact ⟨ret_bool' (by simp), k0.trans (kk.mono k0.size)⟩
    cases h3 : procB a b c y
    · skip
      rw [show imNamedB a b c ⟨5, x, y, z⟩ = false by simp [imNamedB, h2, h3]]
      go_enter Tryz.func139, Tryz.ntmps139
      go_wp2_with (first
        | (go_at_call 126; refine (mayHave_any _ _ _ _ _).mono ?_; rintro e w1 ⟨rfl, hb⟩; replace kk := kk.trans (hb.mono kk.size); clear hb; (try clear hc hf); obtain ⟨hc, hf⟩ := bcell kk)
        | (go_at_call 141; refine (hasProc_any _ _ _ _ _).mono ?_; rintro e w1 ⟨rfl, hb⟩; replace kk := kk.trans (hb.mono kk.size); clear hb; (try clear hc hf); obtain ⟨hc, hf⟩ := bcell kk)
        | (go_at_call 114; refine (within_any _ _ _ _).mono ?_; rintro e w' ⟨rfl, rfl⟩)
        | (go_at_call 125; refine (isTime_any _ _).mono ?_; rintro e w' ⟨rfl, rfl⟩))
      go_ret
      exact ⟨ret_bool' (by simp), k0.trans (kk.mono k0.size)⟩
    go_enter Tryz.func139, Tryz.ntmps139
    go_wp2_with (first
      | (go_at_call 126; refine (mayHave_any _ _ _ _ _).mono ?_; rintro e w1 ⟨rfl, hb⟩; replace kk := kk.trans (hb.mono kk.size); clear hb; (try clear hc hf); obtain ⟨hc, hf⟩ := bcell kk)
      | (go_at_call 141; refine (hasProc_any _ _ _ _ _).mono ?_; rintro e w1 ⟨rfl, hb⟩; replace kk := kk.trans (hb.mono kk.size); clear hb; (try clear hc hf); obtain ⟨hc, hf⟩ := bcell kk)
      | (go_at_call 114; refine (within_any _ _ _ _).mono ?_; rintro e w' ⟨rfl, rfl⟩)
      | (go_at_call 125; refine (isTime_any _ _).mono ?_; rintro e w' ⟨rfl, rfl⟩))
    go_ret
    exact ⟨ret_bool' (by simp [imNamedB, h2, h3]), k0.trans (kk.mono k0.size)⟩
  by_cases c6 : k = 6
  case pos =>
    subst c6
    go_enter Tryz.func139, Tryz.ntmps139
    go_wp2_with (first
      | (go_at_call 126; refine (mayHave_any _ _ _ _ _).mono ?_; rintro e w1 ⟨rfl, hb⟩; replace kk := kk.trans (hb.mono kk.size); clear hb; (try clear hc hf); obtain ⟨hc, hf⟩ := bcell kk)
      | (go_at_call 141; refine (hasProc_any _ _ _ _ _).mono ?_; rintro e w1 ⟨rfl, hb⟩; replace kk := kk.trans (hb.mono kk.size); clear hb; (try clear hc hf); obtain ⟨hc, hf⟩ := bcell kk)
      | (go_at_call 114; refine (within_any _ _ _ _).mono ?_; rintro e w' ⟨rfl, rfl⟩)
      | (go_at_call 125; refine (isTime_any _ _).mono ?_; rintro e w' ⟨rfl, rfl⟩))
    go_ret
    exact ⟨ret_bool' (by simp [imNamedB]), k0.trans (kk.mono k0.size)⟩
  have c1b : (k == 1) = false := by simpa using c1
  have c2b : (k == 2) = false := by simpa using c2
  have c3b : (k == 3) = false := by simpa using c3
  have c4b : (k == 4) = false := by simpa using c4
  have c5b : (k == 5) = false := by simpa using c5
  have c6b : (k == 6) = false := by simpa using c6
  rw [show imNamedB a b c ⟨k, x, y, z⟩ = false by simp [imNamedB, c1, c2, c3, c4, c5, c6]]
  go_enter Tryz.func139, Tryz.ntmps139
  go_wp2_with (first
    | (go_at_call 126; refine (mayHave_any _ _ _ _ _).mono ?_; rintro e w1 ⟨rfl, hb⟩; replace kk := kk.trans (hb.mono kk.size); clear hb; (try clear hc hf); obtain ⟨hc, hf⟩ := bcell kk)
    | (go_at_call 141; refine (hasProc_any _ _ _ _ _).mono ?_; rintro e w1 ⟨rfl, hb⟩; replace kk := kk.trans (hb.mono kk.size); clear hb; (try clear hc hf); obtain ⟨hc, hf⟩ := bcell kk)
    | (go_at_call 114; refine (within_any _ _ _ _).mono ?_; rintro e w' ⟨rfl, rfl⟩)
    | (go_at_call 125; refine (isTime_any _ _).mono ?_; rintro e w' ⟨rfl, rfl⟩))
  go_ret
  exact ⟨ret_bool' (by simp), k0.trans (kk.mono k0.size)⟩

set_option maxRecDepth 100000 in
set_option maxHeartbeats 4000000 in
theorem restZero_four (k x y z : Int) (w : World) :
    Calls Tryz.prog 140 #[.agg #[.int .i64 k, .int .i64 x, .int .i64 y, .int .i64 z]] w fun e w' => e = .returned (.bool (imRestB ⟨k, x, y, z⟩)) ∧ Below w.heap.size w w' := by
  have k0 := (Below.refl w.heap.size w).alloc (Nat.le_refl _) (.cells #[.int .i64 k, .int .i64 x, .int .i64 y, .int .i64 z] 37)
  by_cases c2 : k = 2
  case pos =>
    subst c2
    by_cases h1 : y = 0
    case neg =>
      have h1b : (y == 0) = false := by simpa using h1
      have h1c : (y != 0) = true := by simpa using h1
      rw [show imRestB ⟨2, x, y, z⟩ = false by simp [imRestB, h1]]
      go_enter Tryz.func140, Tryz.ntmps140
      go_wp2
      go_ret
      exact ⟨ret_bool' (by simp), k0⟩
    subst h1
    go_enter Tryz.func140, Tryz.ntmps140
    go_wp2
    go_ret
    exact ⟨ret_bool' (by simp [imRestB]), k0⟩
  by_cases c3 : k = 3
  case pos =>
    subst c3
    go_enter Tryz.func140, Tryz.ntmps140
    go_wp2
    go_ret
    exact ⟨ret_bool' (by simp [imRestB]), k0⟩
  by_cases c4 : k = 4
  case pos =>
    subst c4
    by_cases h1 : y = 0
    case neg =>
      have h1b : (y == 0) = false := by simpa using h1
      have h1c : (y != 0) = true := by simpa using h1
      rw [show imRestB ⟨4, x, y, z⟩ = false by simp [imRestB, h1]]
      go_enter Tryz.func140, Tryz.ntmps140
      go_wp2
      go_ret
      exact ⟨ret_bool' (by simp), k0⟩
    subst h1
    go_enter Tryz.func140, Tryz.ntmps140
    go_wp2
    go_ret
    exact ⟨ret_bool' (by simp [imRestB]), k0⟩
  by_cases c5 : k = 5
  case pos =>
    subst c5
    go_enter Tryz.func140, Tryz.ntmps140
    go_wp2
    go_ret
    exact ⟨ret_bool' (by simp [imRestB]), k0⟩
  by_cases c6 : k = 6
  case pos =>
    subst c6
    by_cases h1 : y = 0
    case neg =>
      have h1b : (y == 0) = false := by simpa using h1
      have h1c : (y != 0) = true := by simpa using h1
      rw [show imRestB ⟨6, x, y, z⟩ = false by simp [imRestB, h1]]
      go_enter Tryz.func140, Tryz.ntmps140
      go_wp2
      go_ret
      exact ⟨ret_bool' (by simp), k0⟩
    subst h1
    go_enter Tryz.func140, Tryz.ntmps140
    go_wp2
    go_ret
    exact ⟨ret_bool' (by simp [imRestB]), k0⟩
  have c2b : (k == 2) = false := by simpa using c2
  have c3b : (k == 3) = false := by simpa using c3
  have c4b : (k == 4) = false := by simpa using c4
  have c5b : (k == 5) = false := by simpa using c5
  have c6b : (k == 6) = false := by simpa using c6
  rw [show imRestB ⟨k, x, y, z⟩ = true by simp [imRestB, c2, c3, c4, c5, c6]]
  go_enter Tryz.func140, Tryz.ntmps140
  go_wp2
  go_ret
  exact ⟨ret_bool' (by simp), k0⟩

set_option maxRecDepth 100000 in
set_option maxHeartbeats 1000000 in
theorem rightInC_four (a b c k x y z : Int) (w : World) :
    Calls Tryz.prog 128 #[.agg #[.int .i64 k, .int .i64 x, .int .i64 y, .int .i64 z], .agg #[.int .i64 a, .int .i64 b, .int .i64 c]] w fun e w' => e = .returned (.bool (imNamedB a b c ⟨k, x, y, z⟩ && imRestB ⟨k, x, y, z⟩)) ∧ Below w.heap.size w w' := by
  have k0 := ((Below.refl w.heap.size w).alloc (Nat.le_refl _) (.cells #[.int .i64 k, .int .i64 x, .int .i64 y, .int .i64 z] 37)).alloc (by simp) (.cells #[.int .i64 a, .int .i64 b, .int .i64 c] 46)
  have kk := Below.refl ((w.alloc (.cells #[.int .i64 k, .int .i64 x, .int .i64 y, .int .i64 z] 37)).alloc (.cells #[.int .i64 a, .int .i64 b, .int .i64 c] 46)).heap.size ((w.alloc (.cells #[.int .i64 k, .int .i64 x, .int .i64 y, .int .i64 z] 37)).alloc (.cells #[.int .i64 a, .int .i64 b, .int .i64 c] 46))
  cases h1 : imNamedB a b c ⟨k, x, y, z⟩
  · skip
    go_enter Tryz.func128, Tryz.ntmps128
    go_wp2_with (first
      | (go_at_call 139; refine (named_four _ _ _ _ _ _ _ _).mono ?_; rintro e w1 ⟨rfl, hb⟩; replace kk := kk.trans (hb.mono kk.size); clear hb; (try clear hc hf); obtain ⟨hc, hf⟩ := bcell kk)
      | (go_at_call 140; refine (restZero_four _ _ _ _ _).mono ?_; rintro e w1 ⟨rfl, hb⟩; replace kk := kk.trans (hb.mono kk.size); clear hb; (try clear hc hf); obtain ⟨hc, hf⟩ := bcell kk))
    go_ret
    exact ⟨ret_bool' (by simp []), k0.trans (kk.mono k0.size)⟩
  go_enter Tryz.func128, Tryz.ntmps128
  go_wp2_with (first
    | (go_at_call 139; refine (named_four _ _ _ _ _ _ _ _).mono ?_; rintro e w1 ⟨rfl, hb⟩; replace kk := kk.trans (hb.mono kk.size); clear hb; (try clear hc hf); obtain ⟨hc, hf⟩ := bcell kk)
    | (go_at_call 140; refine (restZero_four _ _ _ _ _).mono ?_; rintro e w1 ⟨rfl, hb⟩; replace kk := kk.trans (hb.mono kk.size); clear hb; (try clear hc hf); obtain ⟨hc, hf⟩ := bcell kk))
  go_ret
  exact ⟨ret_bool' (by simp []), k0.trans (kk.mono k0.size)⟩

end Go.Proofs.YtngbcpmhejeheaaGreatDoor

/-
  Hands, in the program.
-/
namespace Go.Proofs.YtngbcpmhejeheaaGreatDoor
open Go.RowKit Go.Joins
set_option linter.unusedVariables false
set_option linter.unusedSimpArgs false

set_option maxRecDepth 100000 in
set_option maxHeartbeats 400000 in
theorem imNewHand_any (w : World) : Calls Tryz.prog 117 #[] w fun e w' => e = .returned (hdV newHd) ∧ Below w.heap.size w w' := by
  go_enter Tryz.func117, Tryz.ntmps117
  go_wp2
  exact bodyPost_ret (v := hdV newHd) (by simp [results, Tryz.results117, go_sem, newHd, ca0]) rfl ⟨rfl, by first | exact Below.refl _ _ | exact (Below.refl _ _).alloc (Nat.le_refl _) _ | exact ((Below.refl _ _).alloc (Nat.le_refl _) _).alloc (by simp) _⟩

set_option maxRecDepth 100000 in
set_option maxHeartbeats 1000000 in
theorem imResting_any (r o : Int) (w : World) : Calls Tryz.prog 101 #[.int .i64 r, .int .i64 o] w fun e w' => e = .returned (hdV (restHd r o)) ∧ Below w.heap.size w w' := by
  have k0 := (Below.refl w.heap.size w).alloc (Nat.le_refl _) (.cells #[.int .i64 0, .int .i64 0, .int .i64 0, .int .i64 0, .int .i64 0, .int .i64 0, .int .i64 0, .bool false, .int .i64 0, .int .i64 0, .int .i64 0, .int .i64 0] 39)
  have kk := Below.refl (w.alloc (.cells #[.int .i64 0, .int .i64 0, .int .i64 0, .int .i64 0, .int .i64 0, .int .i64 0, .int .i64 0, .bool false, .int .i64 0, .int .i64 0, .int .i64 0, .int .i64 0] 39)).heap.size (w.alloc (.cells #[.int .i64 0, .int .i64 0, .int .i64 0, .int .i64 0, .int .i64 0, .int .i64 0, .int .i64 0, .bool false, .int .i64 0, .int .i64 0, .int .i64 0, .int .i64 0] 39))
  have p0 := heap_alloc_new w (.cells #[.int .i64 0, .int .i64 0, .int .i64 0, .int .i64 0, .int .i64 0, .int .i64 0, .int .i64 0, .bool false, .int .i64 0, .int .i64 0, .int .i64 0, .int .i64 0] 39)
  go_enter Tryz.func101, Tryz.ntmps101
  go_wp2_with fail
  go_at_call 117; refine (imNewHand_any _).mono ?_; rintro e w1 ⟨rfl, hb⟩; replace kk := kk.trans (hb.mono kk.size); clear hb
  have hz := kk.size
  simp at hz
  replace p0 := b_block kk p0 (by simp)
  generalize hB : w.heap.size = B at p0 hz ⊢
  have kw := k0.trans (kk.mono k0.size)
  clear kk
  have c0 : ∀ X : Obj, (w1.alloc X).cell? ⟨B, 0, none⟩ = some (.int .i64 0) := fun X => cell_of_block (alloc_block X p0) 0
  have f0 : ∀ X : Obj, (w1.alloc X).frozen? ⟨B, 0, none⟩ = false := fun X => unfrozen_of_block (alloc_block X p0) 0
  have c1 : ∀ X : Obj, (w1.alloc X).cell? ⟨B, 1, none⟩ = some (.int .i64 0) := fun X => cell_of_block (alloc_block X p0) 1
  have f1 : ∀ X : Obj, (w1.alloc X).frozen? ⟨B, 1, none⟩ = false := fun X => unfrozen_of_block (alloc_block X p0) 1
  have c2 : ∀ X : Obj, (w1.alloc X).cell? ⟨B, 2, none⟩ = some (.int .i64 0) := fun X => cell_of_block (alloc_block X p0) 2
  have f2 : ∀ X : Obj, (w1.alloc X).frozen? ⟨B, 2, none⟩ = false := fun X => unfrozen_of_block (alloc_block X p0) 2
  have c3 : ∀ X : Obj, (w1.alloc X).cell? ⟨B, 3, none⟩ = some (.int .i64 0) := fun X => cell_of_block (alloc_block X p0) 3
  have f3 : ∀ X : Obj, (w1.alloc X).frozen? ⟨B, 3, none⟩ = false := fun X => unfrozen_of_block (alloc_block X p0) 3
  have c4 : ∀ X : Obj, (w1.alloc X).cell? ⟨B, 4, none⟩ = some (.int .i64 0) := fun X => cell_of_block (alloc_block X p0) 4
  have f4 : ∀ X : Obj, (w1.alloc X).frozen? ⟨B, 4, none⟩ = false := fun X => unfrozen_of_block (alloc_block X p0) 4
  have c5 : ∀ X : Obj, (w1.alloc X).cell? ⟨B, 5, none⟩ = some (.int .i64 0) := fun X => cell_of_block (alloc_block X p0) 5
  have f5 : ∀ X : Obj, (w1.alloc X).frozen? ⟨B, 5, none⟩ = false := fun X => unfrozen_of_block (alloc_block X p0) 5
  have c6 : ∀ X : Obj, (w1.alloc X).cell? ⟨B, 6, none⟩ = some (.int .i64 0) := fun X => cell_of_block (alloc_block X p0) 6
  have f6 : ∀ X : Obj, (w1.alloc X).frozen? ⟨B, 6, none⟩ = false := fun X => unfrozen_of_block (alloc_block X p0) 6
  have c7 : ∀ X : Obj, (w1.alloc X).cell? ⟨B, 7, none⟩ = some (.bool false) := fun X => cell_of_block (alloc_block X p0) 7
  have f7 : ∀ X : Obj, (w1.alloc X).frozen? ⟨B, 7, none⟩ = false := fun X => unfrozen_of_block (alloc_block X p0) 7
  have c8 : ∀ X : Obj, (w1.alloc X).cell? ⟨B, 8, none⟩ = some (.int .i64 0) := fun X => cell_of_block (alloc_block X p0) 8
  have f8 : ∀ X : Obj, (w1.alloc X).frozen? ⟨B, 8, none⟩ = false := fun X => unfrozen_of_block (alloc_block X p0) 8
  have c9 : ∀ X : Obj, (w1.alloc X).cell? ⟨B, 9, none⟩ = some (.int .i64 0) := fun X => cell_of_block (alloc_block X p0) 9
  have f9 : ∀ X : Obj, (w1.alloc X).frozen? ⟨B, 9, none⟩ = false := fun X => unfrozen_of_block (alloc_block X p0) 9
  have c10 : ∀ X : Obj, (w1.alloc X).cell? ⟨B, 10, none⟩ = some (.int .i64 0) := fun X => cell_of_block (alloc_block X p0) 10
  have f10 : ∀ X : Obj, (w1.alloc X).frozen? ⟨B, 10, none⟩ = false := fun X => unfrozen_of_block (alloc_block X p0) 10
  have c11 : ∀ X : Obj, (w1.alloc X).cell? ⟨B, 11, none⟩ = some (.int .i64 0) := fun X => cell_of_block (alloc_block X p0) 11
  have f11 : ∀ X : Obj, (w1.alloc X).frozen? ⟨B, 11, none⟩ = false := fun X => unfrozen_of_block (alloc_block X p0) 11
  go_wp2
  obtain ⟨X, hX⟩ : ∃ X : Obj, X = .cells (hdCells ⟨newHd.pos, newHd.call, newHd.tim, newHd.whe, newHd.had, newHd.cnt, newHd.beg, r, o⟩) 39 := ⟨_, rfl⟩
  have r0 := set_hand (h := ⟨newHd.pos, newHd.call, newHd.tim, newHd.whe, newHd.had, newHd.cnt, newHd.beg, r, o⟩) (alloc_block X p0)
  have hb := b_set_hand (n := w.heap.size) (h := ⟨newHd.pos, newHd.call, newHd.tim, newHd.whe, newHd.had, newHd.cnt, newHd.beg, r, o⟩) ((kw.alloc kw.size X)) (Nat.le_of_eq hB)
  rw [hX] at r0 hb
  have hq := r0
  clear r0
  have r0 := cell_of_block hq 0
  have r1 := cell_of_block hq 1
  have r2 := cell_of_block hq 2
  have r3 := cell_of_block hq 3
  have r4 := cell_of_block hq 4
  have r5 := cell_of_block hq 5
  have r6 := cell_of_block hq 6
  have r7 := cell_of_block hq 7
  have r8 := cell_of_block hq 8
  have r9 := cell_of_block hq 9
  have r10 := cell_of_block hq 10
  have r11 := cell_of_block hq 11
  exact bodyPost_ret (v := hdV ⟨newHd.pos, newHd.call, newHd.tim, newHd.whe, newHd.had, newHd.cnt, newHd.beg, r, o⟩) (by simp [results, Tryz.results101, go_sem, r0, r1, r2, r3, r4, r5, r6, r7, r8, r9, r10, r11]) rfl ⟨rfl, hb⟩

def beganB (h : Hd) : Bool := h.pos == 0 && noneB h.call
def timB (a b c : Int) (h : Hd) : Bool := h.tim == -1 || mayB a b c h.tim
def hcallB (a b c : Int) (h : Hd) : Bool := beganB h || (imNamedB a b c h.call && imRestB h.call)

set_option maxRecDepth 100000 in
set_option maxHeartbeats 1000000 in
theorem notBegun_twelve (po k x y z ti wh : Int) (ha : Bool) (cn be re ou : Int) (w : World) : Calls Tryz.prog 127 #[.agg #[.int .i64 po, .int .i64 k, .int .i64 x, .int .i64 y, .int .i64 z, .int .i64 ti, .int .i64 wh, .bool ha, .int .i64 cn, .int .i64 be, .int .i64 re, .int .i64 ou]] w fun e w' => e = .returned (.bool (beganB ⟨po, ⟨k, x, y, z⟩, ti, wh, ha, cn, be, re, ou⟩)) ∧ Below w.heap.size w w' := by
  have k0 := ((Below.refl w.heap.size w).alloc (Nat.le_refl _) (.cells #[.int .i64 po, .int .i64 k, .int .i64 x, .int .i64 y, .int .i64 z, .int .i64 ti, .int .i64 wh, .bool ha, .int .i64 cn, .int .i64 be, .int .i64 re, .int .i64 ou] 39))
  have kk := Below.refl (w.alloc (.cells #[.int .i64 po, .int .i64 k, .int .i64 x, .int .i64 y, .int .i64 z, .int .i64 ti, .int .i64 wh, .bool ha, .int .i64 cn, .int .i64 be, .int .i64 re, .int .i64 ou] 39)).heap.size (w.alloc (.cells #[.int .i64 po, .int .i64 k, .int .i64 x, .int .i64 y, .int .i64 z, .int .i64 ti, .int .i64 wh, .bool ha, .int .i64 cn, .int .i64 be, .int .i64 re, .int .i64 ou] 39))
  by_cases h0 : po = 0
  case neg =>
    have h0b : (po == 0) = false := by simpa using h0
    rw [show beganB ⟨po, ⟨k, x, y, z⟩, ti, wh, ha, cn, be, re, ou⟩ = false by simp [beganB, noneB, h0]]
    go_enter Tryz.func127, Tryz.ntmps127
    go_wp2
    all_goals
      go_ret
      exact ⟨ret_bool' (by simp), k0.trans (kk.mono k0.size)⟩
  subst h0
  by_cases h1 : k = 0
  case neg =>
    rw [show beganB ⟨0, ⟨k, x, y, z⟩, ti, wh, ha, cn, be, re, ou⟩ = false by simp [beganB, noneB, h1]]
    go_enter Tryz.func127, Tryz.ntmps127
    go_wp2
    all_goals
      go_ret
      exact ⟨ret_bool' (by simp), k0.trans (kk.mono k0.size)⟩
  subst h1
  by_cases h2 : x = 0
  case neg =>
    rw [show beganB ⟨0, ⟨0, x, y, z⟩, ti, wh, ha, cn, be, re, ou⟩ = false by simp [beganB, noneB, h2]]
    go_enter Tryz.func127, Tryz.ntmps127
    go_wp2
    all_goals
      go_ret
      exact ⟨ret_bool' (by simp), k0.trans (kk.mono k0.size)⟩
  subst h2
  by_cases h3 : y = 0
  case neg =>
    rw [show beganB ⟨0, ⟨0, 0, y, z⟩, ti, wh, ha, cn, be, re, ou⟩ = false by simp [beganB, noneB, h3]]
    go_enter Tryz.func127, Tryz.ntmps127
    go_wp2
    all_goals
      go_ret
      exact ⟨ret_bool' (by simp), k0.trans (kk.mono k0.size)⟩
  subst h3
  by_cases h4 : z = 0
  case neg =>
    rw [show beganB ⟨0, ⟨0, 0, 0, z⟩, ti, wh, ha, cn, be, re, ou⟩ = false by simp [beganB, noneB, h4]]
    go_enter Tryz.func127, Tryz.ntmps127
    go_wp2
    all_goals
      go_ret
      exact ⟨ret_bool' (by simp), k0.trans (kk.mono k0.size)⟩
  subst h4
  rw [show beganB ⟨0, ⟨0, 0, 0, 0⟩, ti, wh, ha, cn, be, re, ou⟩ = true by simp [beganB, noneB]]
  go_enter Tryz.func127, Tryz.ntmps127
  go_wp2
  all_goals
    go_ret
    exact ⟨ret_bool' (by simp), k0.trans (kk.mono k0.size)⟩

set_option maxRecDepth 100000 in
set_option maxHeartbeats 1000000 in
theorem timerRightH_twelve (a b c : Int) (po k x y z ti wh : Int) (ha : Bool) (cn be re ou : Int) (w : World) : Calls Tryz.prog 112 #[.agg #[.int .i64 po, .int .i64 k, .int .i64 x, .int .i64 y, .int .i64 z, .int .i64 ti, .int .i64 wh, .bool ha, .int .i64 cn, .int .i64 be, .int .i64 re, .int .i64 ou], .agg #[.int .i64 a, .int .i64 b, .int .i64 c]] w fun e w' => e = .returned (.bool (timB a b c ⟨po, ⟨k, x, y, z⟩, ti, wh, ha, cn, be, re, ou⟩)) ∧ Below w.heap.size w w' := by
  have k0 := (((Below.refl w.heap.size w).alloc (Nat.le_refl _) (.cells #[.int .i64 po, .int .i64 k, .int .i64 x, .int .i64 y, .int .i64 z, .int .i64 ti, .int .i64 wh, .bool ha, .int .i64 cn, .int .i64 be, .int .i64 re, .int .i64 ou] 39)).alloc (by simp) (.cells #[.int .i64 a, .int .i64 b, .int .i64 c] 46))
  have kk := Below.refl ((w.alloc (.cells #[.int .i64 po, .int .i64 k, .int .i64 x, .int .i64 y, .int .i64 z, .int .i64 ti, .int .i64 wh, .bool ha, .int .i64 cn, .int .i64 be, .int .i64 re, .int .i64 ou] 39)).alloc (.cells #[.int .i64 a, .int .i64 b, .int .i64 c] 46)).heap.size ((w.alloc (.cells #[.int .i64 po, .int .i64 k, .int .i64 x, .int .i64 y, .int .i64 z, .int .i64 ti, .int .i64 wh, .bool ha, .int .i64 cn, .int .i64 be, .int .i64 re, .int .i64 ou] 39)).alloc (.cells #[.int .i64 a, .int .i64 b, .int .i64 c] 46))
  by_cases h1 : ti = -1
  case pos =>
    subst h1
    rw [show timB a b c ⟨po, ⟨k, x, y, z⟩, -1, wh, ha, cn, be, re, ou⟩ = true by simp [timB]]
    go_enter Tryz.func112, Tryz.ntmps112
    go_wp2_with (first
      | (go_at_call 126; refine (mayHave_any _ _ _ _ _).mono ?_; rintro e w1 ⟨rfl, hb⟩; replace kk := kk.trans (hb.mono kk.size); clear hb; (try clear hc hf); obtain ⟨hc, hf⟩ := bcell kk))
    go_ret
    exact ⟨ret_bool' (by simp), k0.trans (kk.mono k0.size)⟩
  have h1b : (ti == -1) = false := by simpa using h1
  go_enter Tryz.func112, Tryz.ntmps112
  go_wp2_with (first
    | (go_at_call 126; refine (mayHave_any _ _ _ _ _).mono ?_; rintro e w1 ⟨rfl, hb⟩; replace kk := kk.trans (hb.mono kk.size); clear hb; (try clear hc hf); obtain ⟨hc, hf⟩ := bcell kk))
  go_ret
  exact ⟨ret_bool' (by simp [timB, h1]), k0.trans (kk.mono k0.size)⟩

set_option maxRecDepth 100000 in
set_option maxHeartbeats 1000000 in
theorem callRightH_twelve (a b c : Int) (po k x y z ti wh : Int) (ha : Bool) (cn be re ou : Int) (w : World) : Calls Tryz.prog 113 #[.agg #[.int .i64 po, .int .i64 k, .int .i64 x, .int .i64 y, .int .i64 z, .int .i64 ti, .int .i64 wh, .bool ha, .int .i64 cn, .int .i64 be, .int .i64 re, .int .i64 ou], .agg #[.int .i64 a, .int .i64 b, .int .i64 c]] w fun e w' => e = .returned (.bool (hcallB a b c ⟨po, ⟨k, x, y, z⟩, ti, wh, ha, cn, be, re, ou⟩)) ∧ Below w.heap.size w w' := by
  have k0 := (((Below.refl w.heap.size w).alloc (Nat.le_refl _) (.cells #[.int .i64 po, .int .i64 k, .int .i64 x, .int .i64 y, .int .i64 z, .int .i64 ti, .int .i64 wh, .bool ha, .int .i64 cn, .int .i64 be, .int .i64 re, .int .i64 ou] 39)).alloc (by simp) (.cells #[.int .i64 a, .int .i64 b, .int .i64 c] 46))
  have kk := Below.refl ((w.alloc (.cells #[.int .i64 po, .int .i64 k, .int .i64 x, .int .i64 y, .int .i64 z, .int .i64 ti, .int .i64 wh, .bool ha, .int .i64 cn, .int .i64 be, .int .i64 re, .int .i64 ou] 39)).alloc (.cells #[.int .i64 a, .int .i64 b, .int .i64 c] 46)).heap.size ((w.alloc (.cells #[.int .i64 po, .int .i64 k, .int .i64 x, .int .i64 y, .int .i64 z, .int .i64 ti, .int .i64 wh, .bool ha, .int .i64 cn, .int .i64 be, .int .i64 re, .int .i64 ou] 39)).alloc (.cells #[.int .i64 a, .int .i64 b, .int .i64 c] 46))
  cases h1 : beganB ⟨po, ⟨k, x, y, z⟩, ti, wh, ha, cn, be, re, ou⟩
  case true =>
    rw [show hcallB a b c ⟨po, ⟨k, x, y, z⟩, ti, wh, ha, cn, be, re, ou⟩ = true by simp [hcallB, h1]]
    go_enter Tryz.func113, Tryz.ntmps113
    go_wp2_with (first
      | (go_at_call 127; refine (notBegun_twelve _ _ _ _ _ _ _ _ _ _ _ _ _).mono ?_; rintro e w1 ⟨rfl, hb⟩; replace kk := kk.trans (hb.mono kk.size); clear hb; (try clear hc hf); obtain ⟨hc, hf⟩ := bcell kk)
      | (go_at_call 128; refine (rightInC_four _ _ _ _ _ _ _ _).mono ?_; rintro e w1 ⟨rfl, hb⟩; replace kk := kk.trans (hb.mono kk.size); clear hb; (try clear hc hf); obtain ⟨hc, hf⟩ := bcell kk))
    go_ret
    exact ⟨ret_bool' (by simp), k0.trans (kk.mono k0.size)⟩
  go_enter Tryz.func113, Tryz.ntmps113
  go_wp2_with (first
    | (go_at_call 127; refine (notBegun_twelve _ _ _ _ _ _ _ _ _ _ _ _ _).mono ?_; rintro e w1 ⟨rfl, hb⟩; replace kk := kk.trans (hb.mono kk.size); clear hb; (try clear hc hf); obtain ⟨hc, hf⟩ := bcell kk)
    | (go_at_call 128; refine (rightInC_four _ _ _ _ _ _ _ _).mono ?_; rintro e w1 ⟨rfl, hb⟩; replace kk := kk.trans (hb.mono kk.size); clear hb; (try clear hc hf); obtain ⟨hc, hf⟩ := bcell kk))
  go_ret
  exact ⟨ret_bool' (by simp [hcallB, h1]), k0.trans (kk.mono k0.size)⟩

set_option maxRecDepth 100000 in
set_option maxHeartbeats 2000000 in
theorem numbersRightH_twelve (po k x y z ti wh : Int) (ha : Bool) (cn be re ou : Int) (w : World) : Calls Tryz.prog 111 #[.agg #[.int .i64 po, .int .i64 k, .int .i64 x, .int .i64 y, .int .i64 z, .int .i64 ti, .int .i64 wh, .bool ha, .int .i64 cn, .int .i64 be, .int .i64 re, .int .i64 ou]] w fun e w' => e = .returned (.bool (hdNumB ⟨po, ⟨k, x, y, z⟩, ti, wh, ha, cn, be, re, ou⟩)) ∧ Below w.heap.size w w' := by
  have k0 := ((Below.refl w.heap.size w).alloc (Nat.le_refl _) (.cells #[.int .i64 po, .int .i64 k, .int .i64 x, .int .i64 y, .int .i64 z, .int .i64 ti, .int .i64 wh, .bool ha, .int .i64 cn, .int .i64 be, .int .i64 re, .int .i64 ou] 39))
  have kk := Below.refl (w.alloc (.cells #[.int .i64 po, .int .i64 k, .int .i64 x, .int .i64 y, .int .i64 z, .int .i64 ti, .int .i64 wh, .bool ha, .int .i64 cn, .int .i64 be, .int .i64 re, .int .i64 ou] 39)).heap.size (w.alloc (.cells #[.int .i64 po, .int .i64 k, .int .i64 x, .int .i64 y, .int .i64 z, .int .i64 ti, .int .i64 wh, .bool ha, .int .i64 cn, .int .i64 be, .int .i64 re, .int .i64 ou] 39))
  cases h0 : inB po 0 18
  · skip
    rw [show hdNumB ⟨po, ⟨k, x, y, z⟩, ti, wh, ha, cn, be, re, ou⟩ = false by simp [hdNumB, h0]]
    go_enter Tryz.func111, Tryz.ntmps111
    go_wp2_with (first
      | (go_at_call 114; refine (within_any _ _ _ _).mono ?_; rintro e w' ⟨rfl, rfl⟩)
      | (go_at_call 125; refine (isTime_any _ _).mono ?_; rintro e w' ⟨rfl, rfl⟩))
    go_ret
    exact ⟨ret_bool' (by simp), k0.trans (kk.mono k0.size)⟩
  cases h1 : inB wh 0 1000000000
  · skip
    rw [show hdNumB ⟨po, ⟨k, x, y, z⟩, ti, wh, ha, cn, be, re, ou⟩ = false by simp [hdNumB, h0, h1]]
    go_enter Tryz.func111, Tryz.ntmps111
    go_wp2_with (first
      | (go_at_call 114; refine (within_any _ _ _ _).mono ?_; rintro e w' ⟨rfl, rfl⟩)
      | (go_at_call 125; refine (isTime_any _ _).mono ?_; rintro e w' ⟨rfl, rfl⟩))
    go_ret
    exact ⟨ret_bool' (by simp), k0.trans (kk.mono k0.size)⟩
  cases h2 : inB cn 0 1000
  · skip
    rw [show hdNumB ⟨po, ⟨k, x, y, z⟩, ti, wh, ha, cn, be, re, ou⟩ = false by simp [hdNumB, h0, h1, h2]]
    go_enter Tryz.func111, Tryz.ntmps111
    go_wp2_with (first
      | (go_at_call 114; refine (within_any _ _ _ _).mono ?_; rintro e w' ⟨rfl, rfl⟩)
      | (go_at_call 125; refine (isTime_any _ _).mono ?_; rintro e w' ⟨rfl, rfl⟩))
    go_ret
    exact ⟨ret_bool' (by simp), k0.trans (kk.mono k0.size)⟩
  cases h3 : inB be 0 20000
  · skip
    rw [show hdNumB ⟨po, ⟨k, x, y, z⟩, ti, wh, ha, cn, be, re, ou⟩ = false by simp [hdNumB, h0, h1, h2, h3]]
    go_enter Tryz.func111, Tryz.ntmps111
    go_wp2_with (first
      | (go_at_call 114; refine (within_any _ _ _ _).mono ?_; rintro e w' ⟨rfl, rfl⟩)
      | (go_at_call 125; refine (isTime_any _ _).mono ?_; rintro e w' ⟨rfl, rfl⟩))
    go_ret
    exact ⟨ret_bool' (by simp), k0.trans (kk.mono k0.size)⟩
  cases h4 : inB re 0 5
  · skip
    rw [show hdNumB ⟨po, ⟨k, x, y, z⟩, ti, wh, ha, cn, be, re, ou⟩ = false by simp [hdNumB, h0, h1, h2, h3, h4]]
    go_enter Tryz.func111, Tryz.ntmps111
    go_wp2_with (first
      | (go_at_call 114; refine (within_any _ _ _ _).mono ?_; rintro e w' ⟨rfl, rfl⟩)
      | (go_at_call 125; refine (isTime_any _ _).mono ?_; rintro e w' ⟨rfl, rfl⟩))
    go_ret
    exact ⟨ret_bool' (by simp), k0.trans (kk.mono k0.size)⟩
  go_enter Tryz.func111, Tryz.ntmps111
  go_wp2_with (first
    | (go_at_call 114; refine (within_any _ _ _ _).mono ?_; rintro e w' ⟨rfl, rfl⟩)
    | (go_at_call 125; refine (isTime_any _ _).mono ?_; rintro e w' ⟨rfl, rfl⟩))
  go_ret
  exact ⟨ret_bool' (by simp [hdNumB, h0, h1, h2, h3, h4]), k0.trans (kk.mono k0.size)⟩

theorem im_hand (a b c : Int) (h : Hd) : (planB a b c && (hdNumB h && (timB a b c h && hcallB a b c h))) = handB a b c h := by
  cases h1 : planB a b c
  · simp [handB, h1]
  obtain ⟨b0, b1, b2⟩ := planB_iff.1 h1
  have e : timB a b c h = inB h.tim (-1) (c - 1) := by
    rw [Bool.eq_iff_iff]
    simp [timB, mayB, h1, inB_iff]
    omega
  simp only [handB, h1, e, hcallB, beganB, im_named h1, Bool.true_and]
  rw [Bool.or_comm]

set_option maxRecDepth 100000 in
set_option maxHeartbeats 2000000 in
theorem imHandOk_twelve (a b c : Int) (po k x y z ti wh : Int) (ha : Bool) (cn be re ou : Int) (w : World) : Calls Tryz.prog 86 #[.agg #[.int .i64 a, .int .i64 b, .int .i64 c], .agg #[.int .i64 po, .int .i64 k, .int .i64 x, .int .i64 y, .int .i64 z, .int .i64 ti, .int .i64 wh, .bool ha, .int .i64 cn, .int .i64 be, .int .i64 re, .int .i64 ou]] w fun e w' => e = .returned (.bool (handB a b c ⟨po, ⟨k, x, y, z⟩, ti, wh, ha, cn, be, re, ou⟩)) ∧ Below w.heap.size w w' := by
  have k0 := (((Below.refl w.heap.size w).alloc (Nat.le_refl _) (.cells #[.int .i64 a, .int .i64 b, .int .i64 c] 46)).alloc (by simp) (.cells #[.int .i64 po, .int .i64 k, .int .i64 x, .int .i64 y, .int .i64 z, .int .i64 ti, .int .i64 wh, .bool ha, .int .i64 cn, .int .i64 be, .int .i64 re, .int .i64 ou] 39))
  have kk := Below.refl ((w.alloc (.cells #[.int .i64 a, .int .i64 b, .int .i64 c] 46)).alloc (.cells #[.int .i64 po, .int .i64 k, .int .i64 x, .int .i64 y, .int .i64 z, .int .i64 ti, .int .i64 wh, .bool ha, .int .i64 cn, .int .i64 be, .int .i64 re, .int .i64 ou] 39)).heap.size ((w.alloc (.cells #[.int .i64 a, .int .i64 b, .int .i64 c] 46)).alloc (.cells #[.int .i64 po, .int .i64 k, .int .i64 x, .int .i64 y, .int .i64 z, .int .i64 ti, .int .i64 wh, .bool ha, .int .i64 cn, .int .i64 be, .int .i64 re, .int .i64 ou] 39))
  rw [← im_hand]
  cases h0 : planB a b c
  · skip
    go_enter Tryz.func86, Tryz.ntmps86
    go_wp2_with (first
      | (go_at_call 110; refine (right_any _ _ _ _).mono ?_; rintro e w1 ⟨rfl, hb⟩; replace kk := kk.trans (hb.mono kk.size); clear hb; (try clear hc hf); obtain ⟨hc, hf⟩ := bcell kk)
      | (go_at_call 111; refine (numbersRightH_twelve _ _ _ _ _ _ _ _ _ _ _ _ _).mono ?_; rintro e w1 ⟨rfl, hb⟩; replace kk := kk.trans (hb.mono kk.size); clear hb; (try clear hc hf); obtain ⟨hc, hf⟩ := bcell kk)
      | (go_at_call 112; refine (timerRightH_twelve _ _ _ _ _ _ _ _ _ _ _ _ _ _ _ _).mono ?_; rintro e w1 ⟨rfl, hb⟩; replace kk := kk.trans (hb.mono kk.size); clear hb; (try clear hc hf); obtain ⟨hc, hf⟩ := bcell kk)
      | (go_at_call 113; refine (callRightH_twelve _ _ _ _ _ _ _ _ _ _ _ _ _ _ _ _).mono ?_; rintro e w1 ⟨rfl, hb⟩; replace kk := kk.trans (hb.mono kk.size); clear hb; (try clear hc hf); obtain ⟨hc, hf⟩ := bcell kk))
    go_ret
    exact ⟨ret_bool' (by simp []), k0.trans (kk.mono k0.size)⟩
  cases h1 : hdNumB ⟨po, ⟨k, x, y, z⟩, ti, wh, ha, cn, be, re, ou⟩
  · skip
    go_enter Tryz.func86, Tryz.ntmps86
    go_wp2_with (first
      | (go_at_call 110; refine (right_any _ _ _ _).mono ?_; rintro e w1 ⟨rfl, hb⟩; replace kk := kk.trans (hb.mono kk.size); clear hb; (try clear hc hf); obtain ⟨hc, hf⟩ := bcell kk)
      | (go_at_call 111; refine (numbersRightH_twelve _ _ _ _ _ _ _ _ _ _ _ _ _).mono ?_; rintro e w1 ⟨rfl, hb⟩; replace kk := kk.trans (hb.mono kk.size); clear hb; (try clear hc hf); obtain ⟨hc, hf⟩ := bcell kk)
      | (go_at_call 112; refine (timerRightH_twelve _ _ _ _ _ _ _ _ _ _ _ _ _ _ _ _).mono ?_; rintro e w1 ⟨rfl, hb⟩; replace kk := kk.trans (hb.mono kk.size); clear hb; (try clear hc hf); obtain ⟨hc, hf⟩ := bcell kk)
      | (go_at_call 113; refine (callRightH_twelve _ _ _ _ _ _ _ _ _ _ _ _ _ _ _ _).mono ?_; rintro e w1 ⟨rfl, hb⟩; replace kk := kk.trans (hb.mono kk.size); clear hb; (try clear hc hf); obtain ⟨hc, hf⟩ := bcell kk))
    go_ret
    exact ⟨ret_bool' (by simp []), k0.trans (kk.mono k0.size)⟩
  cases h2 : timB a b c ⟨po, ⟨k, x, y, z⟩, ti, wh, ha, cn, be, re, ou⟩
  · skip
    go_enter Tryz.func86, Tryz.ntmps86
    go_wp2_with (first
      | (go_at_call 110; refine (right_any _ _ _ _).mono ?_; rintro e w1 ⟨rfl, hb⟩; replace kk := kk.trans (hb.mono kk.size); clear hb; (try clear hc hf); obtain ⟨hc, hf⟩ := bcell kk)
      | (go_at_call 111; refine (numbersRightH_twelve _ _ _ _ _ _ _ _ _ _ _ _ _).mono ?_; rintro e w1 ⟨rfl, hb⟩; replace kk := kk.trans (hb.mono kk.size); clear hb; (try clear hc hf); obtain ⟨hc, hf⟩ := bcell kk)
      | (go_at_call 112; refine (timerRightH_twelve _ _ _ _ _ _ _ _ _ _ _ _ _ _ _ _).mono ?_; rintro e w1 ⟨rfl, hb⟩; replace kk := kk.trans (hb.mono kk.size); clear hb; (try clear hc hf); obtain ⟨hc, hf⟩ := bcell kk)
      | (go_at_call 113; refine (callRightH_twelve _ _ _ _ _ _ _ _ _ _ _ _ _ _ _ _).mono ?_; rintro e w1 ⟨rfl, hb⟩; replace kk := kk.trans (hb.mono kk.size); clear hb; (try clear hc hf); obtain ⟨hc, hf⟩ := bcell kk))
    go_ret
    exact ⟨ret_bool' (by simp []), k0.trans (kk.mono k0.size)⟩
  go_enter Tryz.func86, Tryz.ntmps86
  go_wp2_with (first
    | (go_at_call 110; refine (right_any _ _ _ _).mono ?_; rintro e w1 ⟨rfl, hb⟩; replace kk := kk.trans (hb.mono kk.size); clear hb; (try clear hc hf); obtain ⟨hc, hf⟩ := bcell kk)
    | (go_at_call 111; refine (numbersRightH_twelve _ _ _ _ _ _ _ _ _ _ _ _ _).mono ?_; rintro e w1 ⟨rfl, hb⟩; replace kk := kk.trans (hb.mono kk.size); clear hb; (try clear hc hf); obtain ⟨hc, hf⟩ := bcell kk)
    | (go_at_call 112; refine (timerRightH_twelve _ _ _ _ _ _ _ _ _ _ _ _ _ _ _ _).mono ?_; rintro e w1 ⟨rfl, hb⟩; replace kk := kk.trans (hb.mono kk.size); clear hb; (try clear hc hf); obtain ⟨hc, hf⟩ := bcell kk)
    | (go_at_call 113; refine (callRightH_twelve _ _ _ _ _ _ _ _ _ _ _ _ _ _ _ _).mono ?_; rintro e w1 ⟨rfl, hb⟩; replace kk := kk.trans (hb.mono kk.size); clear hb; (try clear hc hf); obtain ⟨hc, hf⟩ := bcell kk))
  go_ret
  exact ⟨ret_bool' (by simp []), k0.trans (kk.mono k0.size)⟩

theorem imHandOk_any (a b c : Int) (h : Hd) (w : World) :
    Calls Tryz.prog 86 #[.agg #[.int .i64 a, .int .i64 b, .int .i64 c], hdV h] w fun e w' => e = .returned (.bool (handB a b c h)) ∧ Below w.heap.size w w' :=
  imHandOk_twelve a b c h.pos h.call.code h.call.a h.call.b h.call.c h.tim h.whe h.had h.cnt h.beg h.rep h.out w

end Go.Proofs.YtngbcpmhejeheaaGreatDoor

/-
  A step while it is made, in the program (chapter 9): locked, unlocked, replied, told; what gives up, and what catches that.
-/
namespace Go.Proofs.YtngbcpmhejeheaaGreatDoor
open Go.RowKit Go.Joins
set_option linter.unusedVariables false
set_option linter.unusedSimpArgs false

theorem giveUp_any (w : World) : Calls Tryz.prog 45 #[] w fun e w' => (∃ u pv, e = .panicked [{ v := .iface u pv, recovered := false }]) ∧ w' = w := by
  go_enter Tryz.func45, Tryz.ntmps45
  go_wp2
  exact ⟨rfl, ⟨_, _, rfl⟩, rfl⟩

theorem catch_panicking (u : TypeId) (pv : Value) (older : List PanicEntry) (w : World) :
    CallsD Tryz.prog 40 #[] (.panicking ({ v := .iface u pv, recovered := false } :: older)) w fun e u' w' =>
      e = .returned (.tuple #[]) ∧ u' = .panicking ({ v := .iface u pv, recovered := true } :: older) ∧ w' = w := by
  refine callsD_of_wpS Tryz.func40 rfl fun c₀ cs hu => ?_
  apply wpS_region
  simp [wpOpsS, go_sem, recoverD, hu, Tryz.ntmps40, Exit.thenS, bodyPostS, results, Tryz.results40]

theorem catch_idle (w : World) :
    CallsD Tryz.prog 40 #[] .returning w fun e u' w' => e = .returned (.tuple #[]) ∧ u' = .returning ∧ w' = w := by
  refine callsD_of_wpS Tryz.func40 rfl fun c₀ cs hu => ?_
  apply wpS_region
  cases c₀
  simp_all [wpOpsS, go_sem, recoverD, Tryz.ntmps40, Exit.thenS, bodyPostS, results, Tryz.results40]

/-- what a call on a deed does -/
def InD (B mb db : Nat) (a b c d : Int) (D : Dn) (w w' : World) : Prop := DeedX w' B mb db a b c d D ∧ Wd B w w'

set_option maxRecDepth 100000 in
set_option maxHeartbeats 2000000 in
theorem reply_any {w : World} {B mb db : Nat} {a b c d : Int} {D : Dn} (r o : Int) (hB : B ≤ w.heap.size) (h : DeedX w B mb db a b c d D) :
    Calls Tryz.prog 68 #[ptrV db, .int .i64 r, .int .i64 o] w fun e w' => e = .returned (.tuple #[]) ∧ InD B mb db a b c d ⟨D.m, restHd r o, D.v⟩ w w' := by
  go_enter Tryz.func68, Tryz.ntmps68
  go_wp2_with fail
  go_at_call 101; refine (imResting_any r o _).mono ?_; rintro e w1 ⟨rfl, hb⟩
  have h1 := h.below hb
  have k1 : Wd B w w1 := .of_new hb hB
  have h2 := h1.setHand (restHd r o)
  have k2 := k1.setDs h1 2 (hdCells (restHd r o)).toList
  clear h hb k1
  have hf := fun o => unfrozen_of_block h1.e o
  have c2 : w1.cell? ⟨db, 2, none⟩ = some _ := cell_of_block h1.e 2
  have c3 : w1.cell? ⟨db, 3, none⟩ = some _ := cell_of_block h1.e 3
  have c4 : w1.cell? ⟨db, 4, none⟩ = some _ := cell_of_block h1.e 4
  have c5 : w1.cell? ⟨db, 5, none⟩ = some _ := cell_of_block h1.e 5
  have c6 : w1.cell? ⟨db, 6, none⟩ = some _ := cell_of_block h1.e 6
  have c7 : w1.cell? ⟨db, 7, none⟩ = some _ := cell_of_block h1.e 7
  have c8 : w1.cell? ⟨db, 8, none⟩ = some _ := cell_of_block h1.e 8
  have c9 : w1.cell? ⟨db, 9, none⟩ = some _ := cell_of_block h1.e 9
  have c10 : w1.cell? ⟨db, 10, none⟩ = some _ := cell_of_block h1.e 10
  have c11 : w1.cell? ⟨db, 11, none⟩ = some _ := cell_of_block h1.e 11
  have c12 : w1.cell? ⟨db, 12, none⟩ = some _ := cell_of_block h1.e 12
  have c13 : w1.cell? ⟨db, 13, none⟩ = some _ := cell_of_block h1.e 13
  clear h1
  go_wp2
  go_end0
  exact ⟨rfl, h2, k2⟩

set_option maxRecDepth 100000 in
set_option maxHeartbeats 2000000 in
theorem tell_any {w : World} {B mb db t : Nat} {a b c d : Int} {D : Dn} (kind when : Int) (hB : B ≤ w.heap.size) (ht : t < D.m.tn) (h : DeedX w B mb db a b c d D) :
    Calls Tryz.prog 93 #[ptrV db, .int .i64 kind, .int .i64 (t : Int), .int .i64 when] w fun e w' => e = .returned (.tuple #[]) ∧ InD B mb db a b c d ⟨D.m, D.h, evI D.m kind t when⟩ w w' := by
  obtain ⟨d0, _, _, _, _, _, _, _, _, hf⟩ := h.cells
  obtain ⟨tv, g, V, ho⟩ := h.o.opened
  obtain ⟨tg, tc, rfl⟩ := ho.tms ht
  obtain ⟨m0, m1, m2, m3, m4, m5⟩ := six ho.m
  obtain ⟨⟨_, _, _, _, _, t5, _, _⟩, _⟩ := ho.tcells ht
  have i2 : (0 : Int) ≤ (t : Int) := by omega
  have i3 : (t : Int) < (D.m.tn : Int) := by omega
  have k0 := (Below.refl w.heap.size w).drew
  clear ho hf
  go_enter Tryz.func93, Tryz.ntmps93
  go_still_tail 23, (by kernel_rfl)
  change wpList _ _ _ _ _ w.drew
  replace h := h.below k0
  have k1 : Wd B w w.drew := .of_new k0 hB
  clear d0 m0 m1 m2 m3 m4 m5 t5 k0
  generalize w.drew = w0 at h k1 ⊢
  have hf := fun o => unfrozen_of_block h.e o
  have c14 : w0.cell? ⟨db, 14, none⟩ = some _ := cell_of_block h.e 14
  have c15 : w0.cell? ⟨db, 15, none⟩ = some _ := cell_of_block h.e 15
  have c16 : w0.cell? ⟨db, 16, none⟩ = some _ := cell_of_block h.e 16
  have c17 : w0.cell? ⟨db, 17, none⟩ = some _ := cell_of_block h.e 17
  have c18 : w0.cell? ⟨db, 18, none⟩ = some _ := cell_of_block h.e 18
  have h2 := h.setEv (evI D.m kind t when)
  have k2 := k1.setDs h 14 [.int .i64 (evI D.m kind t when).kin, .int .i64 (evI D.m kind t when).tim, .int .i64 (evI D.m kind t when).gen, .int .i64 (evI D.m kind t when).whe, .int .i64 (evI D.m kind t when).clk]
  clear h k1
  go_wp2
  go_end0
  exact ⟨rfl, h2, k2⟩

end Go.Proofs.YtngbcpmhejeheaaGreatDoor

/-
  The program's errors of stopping: where they lie; which a status is (chapter 10).
-/
namespace Go.Proofs.YtngbcpmhejeheaaGreatDoor
open Go.RowKit Go.Joins
set_option linter.unusedVariables false
set_option linter.unusedSimpArgs false

/-- the three errors lie in memory, and the type that errors.As asks for -/
structure ErrsAt (w : World) (eb es en : Addr) : Prop where
  gb : w.cell? ⟨0, 0, none⟩ = some (esI eb)
  gs : w.cell? ⟨3, 0, none⟩ = some (esI es)
  gn : w.cell? ⟨1, 0, none⟩ = some (esI en)
  gt : w.cell? ⟨2, 0, none⟩ = some (.iface 168 (.agg #[.pointer (some ⟨4, 110, none⟩)]))
  ob : ∃ c t, w.heap[eb.block]? = some (.cells c t (0, 0))
  os : ∃ c t, w.heap[es.block]? = some (.cells c t (0, 0))
  on : ∃ c t, w.heap[en.block]? = some (.cells c t (0, 0))
  bs : es ≠ eb
  bn : en ≠ eb
theorem ErrsAt.below {w w' : World} {eb es en : Addr} (h : ErrsAt w eb es en) (hb : Below w.heap.size w w') : ErrsAt w' eb es en := by
  have key : ∀ {g : Nat} {v : Value}, w.cell? ⟨g, 0, none⟩ = some v → w'.cell? ⟨g, 0, none⟩ = some v := fun {g v} e => (hb.cell (p := ⟨g, 0, none⟩) (World.block_lt_of_cell? w ⟨g, 0, none⟩ e)).trans e
  have kob : ∀ {a : Addr}, (∃ c t, w.heap[a.block]? = some (.cells c t (0, 0))) → ∃ c t, w'.heap[a.block]? = some (.cells c t (0, 0)) := fun ⟨c, t, e⟩ => ⟨c, t, b_block hb e (lt_of_block e)⟩
  exact ⟨key h.gb, key h.gs, key h.gn, key h.gt, kob h.ob, kob h.os, kob h.on, h.bs, h.bn⟩

/-- which error a status is -/
def canV (eb es : Addr) (s : Int) : Value := if s = 1 ∨ s = 3 ∨ s = 4 then .nilIface else if s = 2 ∨ s = 6 then seI s eb else seI s es

set_option maxRecDepth 100000 in
set_option maxHeartbeats 4000000 in
theorem canBe_any {eb es en : Addr} (s : Int) {w : World} (hE : ErrsAt w eb es en) :
    Calls Tryz.prog 92 #[.int .i64 s] w fun e w' => e = .returned (canV eb es s) ∧ Below w.heap.size w w' := by
  obtain ⟨gb, gs, _, _, _, _, _, _, _⟩ := hE
  by_cases h1 : s = 1
  · subst h1
    rw [show canV eb es 1 = .nilIface from by simp [canV]]
    go_enter Tryz.func92, Tryz.ntmps92
    go_wp2
    go_ret
    exact ⟨rfl, by first | exact Below.refl _ _ | exact (Below.refl _ _).alloc (Nat.le_refl _) _⟩
  by_cases h3 : s = 3
  · subst h3
    rw [show canV eb es 3 = .nilIface from by simp [canV]]
    go_enter Tryz.func92, Tryz.ntmps92
    go_wp2
    go_ret
    exact ⟨rfl, by first | exact Below.refl _ _ | exact (Below.refl _ _).alloc (Nat.le_refl _) _⟩
  by_cases h4 : s = 4
  · subst h4
    rw [show canV eb es 4 = .nilIface from by simp [canV]]
    go_enter Tryz.func92, Tryz.ntmps92
    go_wp2
    go_ret
    exact ⟨rfl, by first | exact Below.refl _ _ | exact (Below.refl _ _).alloc (Nat.le_refl _) _⟩
  by_cases h2 : s = 2
  · subst h2
    rw [show canV eb es 2 = seI 2 eb from by simp [canV]]
    go_enter Tryz.func92, Tryz.ntmps92
    go_wp2
    go_ret
    exact ⟨rfl, by first | exact Below.refl _ _ | exact (Below.refl _ _).alloc (Nat.le_refl _) _⟩
  by_cases h6 : s = 6
  · subst h6
    rw [show canV eb es 6 = seI 6 eb from by simp [canV]]
    go_enter Tryz.func92, Tryz.ntmps92
    go_wp2
    go_ret
    exact ⟨rfl, by first | exact Below.refl _ _ | exact (Below.refl _ _).alloc (Nat.le_refl _) _⟩
  rw [show canV eb es s = seI s es from by simp [canV, h1, h2, h3, h4, h6]]
  have b1 : (s == 1) = false := by simpa using h1
  have b2 : (s == 2) = false := by simpa using h2
  have b3 : (s == 3) = false := by simpa using h3
  have b4 : (s == 4) = false := by simpa using h4
  have b6 : (s == 6) = false := by simpa using h6
  go_enter Tryz.func92, Tryz.ntmps92
  go_wp2
  go_ret
  exact ⟨rfl, by first | exact Below.refl _ _ | exact (Below.refl _ _).alloc (Nat.le_refl _) _⟩

/-- which error a timer is -/
def canM (eb es en : Addr) (M : Me) (t : Int) : Value := if hasT M t then canV eb es (M.t t.toNat).st else esI en

set_option maxRecDepth 100000 in
set_option maxHeartbeats 4000000 in
theorem canMem_any {B mb : Nat} {a b c : Int} {M : Me} {eb es en : Addr} (t : Int) {w : World} (hn : M.tn ≤ 1048576) (ho : OwnedAt w B mb a b c M) (hE : ErrsAt w eb es en) :
    Calls Tryz.prog 64 #[ptrV mb, .int .i64 t] w fun e w' => e = .returned (canM eb es en M t) ∧ Below w.heap.size w w' := by
  have HA := Lib.hid (hasTimer_any hn ho.seen t)
  cases ht : hasT M t
  · rw [show canM eb es en M t = esI en by unfold canM; rw [ht]; rfl]
    rw [ht] at HA
    go_enter Tryz.func64, Tryz.ntmps64
    go_upto_region 1 with fail
    go_wp2_with fail
    go_at_call 88; refine HA.out.mono ?_; rintro e w1 ⟨rfl, hb⟩
    have gn := (hE.below hb).gn
    go_wp2
    go_ret
    exact ⟨rfl, hb⟩
  · have h01 := inB_iff.1 (show inB t 0 ((M.tn : Int) - 1) = true from ht)
    obtain ⟨k, rfl⟩ : ∃ k : Nat, t = (k : Int) := ⟨t.toNat, by omega⟩
    have hk : k < M.tn := by omega
    rw [show canM eb es en M (k : Int) = canV eb es (M.t k).st by unfold canM; rw [ht]; simp]
    rw [ht] at HA
    obtain ⟨tv, g, V, hop⟩ := ho.opened
    go_enter Tryz.func64, Tryz.ntmps64
    go_upto_region 1 with fail
    go_wp2_with fail
    go_at_call 88; refine HA.out.mono ?_; rintro e w1 ⟨rfl, hb⟩
    have h1 := hop.below hb
    obtain ⟨tg, tc, rfl⟩ := h1.tms hk
    obtain ⟨m0, m1, m2, m3, m4, m5⟩ := six h1.m
    obtain ⟨⟨t0, _, _, _, _, _, _, _⟩, _⟩ := h1.tcells hk
    have i2 : (0 : Int) ≤ (k : Int) := by omega
    have i3 : (k : Int) < (M.tn : Int) := by omega
    have HC := Lib.hid (canBe_any (M.t k).st (hE.below hb))
    clear h1 hop HA
    go_wp2_with (go_at_call 92; refine HC.out.mono ?_; rintro e w2 ⟨rfl, hb2⟩)
    go_ret
    exact ⟨rfl, hb.trans (hb2.mono hb.size)⟩

/-- what a timer is set to -/
def setToT (t : Tm) : Int := if t.st = 3 ∨ t.st = 4 then t.nx else t.wh
set_option maxRecDepth 100000 in
set_option maxHeartbeats 4000000 in
theorem setTo_any (t : Tm) (w : World) :
    Calls Tryz.prog 94 #[tmV t] w fun e w' => e = .returned (.int .i64 (setToT t)) ∧ Below w.heap.size w w' := by
  have k0 := (Below.refl w.heap.size w).alloc (Nat.le_refl _) (.cells #[.int .i64 t.st, .int .i64 t.wh, .int .i64 t.nx, .int .i64 t.pe, .int .i64 t.pl, .int .i64 t.ge, .int .i64 t.ki, .int .i64 t.ma] 80)
  obtain ⟨st, wh, nx, pe, pl, ge, ki, ma⟩ := t
  by_cases h3 : st = 3
  · subst h3
    rw [show setToT ⟨3, wh, nx, pe, pl, ge, ki, ma⟩ = nx by simp [setToT]]
    go_enter Tryz.func94, Tryz.ntmps94
    go_wp2
    go_ret
    exact ⟨rfl, k0⟩
  by_cases h4 : st = 4
  · subst h4
    rw [show setToT ⟨4, wh, nx, pe, pl, ge, ki, ma⟩ = nx by simp [setToT]]
    go_enter Tryz.func94, Tryz.ntmps94
    go_wp2
    go_ret
    exact ⟨rfl, k0⟩
  rw [show setToT ⟨st, wh, nx, pe, pl, ge, ki, ma⟩ = wh by simp [setToT, h3, h4]]
  have b3 : (st == 3) = false := by simpa using h3
  have b4 : (st == 4) = false := by simpa using h4
  go_enter Tryz.func94, Tryz.ntmps94
  go_wp2
  go_ret
  exact ⟨rfl, k0⟩

end Go.Proofs.YtngbcpmhejeheaaGreatDoor

/-
  A memory, copied; and later (spec, chapter 5).
-/
namespace Go.Proofs.YtngbcpmhejeheaaGreatDoor
open Go.RowKit Go.Joins
set_option linter.unusedVariables false
set_option linter.unusedSimpArgs false

theorem OwnRow.set4 {w : World} {B n b : Nat} {v : Value} {f : Slots} (h : OwnRow w B v n f) (hb : b < B) (x y z u : Value) :
    OwnRow ((((w.setCell ⟨b, 0, none⟩ x).setCell ⟨b, 1, none⟩ y).setCell ⟨b, 2, none⟩ z).setCell ⟨b, 3, none⟩ u) B v n f := (((h.set hb 0 x).set hb 1 y).set hb 2 z).set hb 3 u
theorem b_set4 {W w : World} {n g : Nat} (h : Below n W w) (hg : n ≤ g) (x y z u : Value) : Below n W ((((w.setCell ⟨g, 0, none⟩ x).setCell ⟨g, 1, none⟩ y).setCell ⟨g, 2, none⟩ z).setCell ⟨g, 3, none⟩ u) :=
  (((h.setCell (p := ⟨g, 0, none⟩) hg x).setCell (p := ⟨g, 1, none⟩) hg y).setCell (p := ⟨g, 2, none⟩) hg z).setCell (p := ⟨g, 3, none⟩) hg u

set_option maxRecDepth 100000 in
set_option maxHeartbeats 2000000 in
theorem l4Copy_any {v : Value} {n : Nat} {f : Slots} (l e d : Int) {w : World} (hn : n ≤ 1048576) (h : RowAt w v n f) :
    Calls Tryz.prog 37 #[prV v l e d] w fun x w' => ∃ u, x = .returned (prV u l e d) ∧ OwnRow w' w.heap.size u n f ∧ Below w.heap.size w w' := by
  have k0 := (Below.refl w.heap.size w).alloc (Nat.le_refl _) (.cells #[v, .int .i64 l, .int .i64 e, .int .i64 d] 83)
  have e0 : (w.alloc (.cells #[v, .int .i64 l, .int .i64 e, .int .i64 d] 83)).heap.size = w.heap.size + 1 := by simp
  have k1 := k0.alloc k0.size (.cells #[.slice none 0 0, .int .i64 0, .int .i64 0, .int .i64 0] 83)
  have hA := alloc_block (.cells #[.slice none 0 0, .int .i64 0, .int .i64 0, .int .i64 0] 83) (heap_alloc_new w (.cells #[v, .int .i64 l, .int .i64 e, .int .i64 d] 83))
  have hR := heap_alloc_new (w.alloc (.cells #[v, .int .i64 l, .int .i64 e, .int .i64 d] 83)) (.cells #[.slice none 0 0, .int .i64 0, .int .i64 0, .int .i64 0] 83)
  rw [e0] at hR
  have lA := lt_of_block hA
  have lR := lt_of_block hR
  have HR := Lib.hid (h.below k1)
  obtain ⟨va, vc, hv⟩ := h.form
  clear h
  subst hv
  go_enter Tryz.func37, Tryz.ntmps37
  go_wp2_with fail
  go_at_call 59; refine (l2Copy_any hn HR.out).mono ?_; rintro x w1 ⟨u, rfl, hO, hb⟩
  have hA1 := b_block hb hA lA
  have hR1 := b_block hb hR lR
  have k2 := k1.trans (hb.mono k1.size)
  replace hO := hO.mono (B' := w.heap.size + 1 + 1) (by simp)
  obtain ⟨ua, uc, hu⟩ := hO.row.form
  obtain ⟨a0, a1, a2, a3, af0, af1, af2, af3⟩ := four hA1
  obtain ⟨r0, r1, r2, r3, rf0, rf1, rf2, rf3⟩ := four hR1
  have k3 := k2.setCell (p := ⟨w.heap.size, 0, none⟩) (Nat.le_refl _) u
  have hO2 := hO.set (b := w.heap.size) (by omega) 0 u
  clear hb hA hR HR k0 k1 hA1 hR1 e0 lA lR hO
  subst hu
  go_wp2
  exact bodyPost_ret (v := prV (.slice ua n uc) l e d) (by simp [results, Tryz.results37, go_sem, r0, r1, r2, r3]) rfl ⟨_, rfl, (hO2.set4 (by omega) _ _ _ _).mono (by omega), b_set4 k3 (Nat.le_succ _) _ _ _ _⟩

theorem ne_of_type {w : World} {g b : Nat} {cs cs' : Array Value} {t t' : TypeId} (h : w.heap[g]? = some (.cells cs t (0, 0))) (h' : w.heap[b]? = some (.cells cs' t' (0, 0))) (hn : t ≠ t') : g ≠ b := by
  rintro rfl
  rw [h] at h'
  injection h' with h'
  injection h' with _ h2 _
  exact hn h2
theorem OwnTRow.setMem {w : World} {B b n : Nat} {v : Value} {f : Tms} {cs : Array Value} (h : OwnTRow w B v n f) (hz : w.heap[b]? = some (.cells cs 36 (0, 0))) (x y z : Value) :
    OwnTRow (((w.setCell ⟨b, 0, none⟩ x).setCell ⟨b, 1, none⟩ y).setCell ⟨b, 2, none⟩ z) B v n f := by
  rcases h with h | ⟨g, cap, e, h⟩
  · exact .inl h
  · have hne : g ≠ b := by
      obtain ⟨_, _, _, cur, hh, _⟩ := h
      exact ne_of_type hh hz (by decide)
    exact .inr ⟨g, cap, e, h.block ((Below.heap_setCell _ ⟨b, 2, none⟩ z g hne).trans ((Below.heap_setCell _ ⟨b, 1, none⟩ y g hne).trans (Below.heap_setCell _ ⟨b, 0, none⟩ x g hne)))⟩
theorem OwnPIn.own {w : World} {B C m : Nat} {v : Value} {P : Pcs} (h : OwnPIn w B C v m P) : OwnPRow w B v m P := by
  rcases h with h | ⟨g, cap, V, e, h, _⟩
  · exact .inl h
  · exact .inr ⟨g, cap, V, e, h⟩
theorem OwnTIn.setM {w : World} {B C b n : Nat} {v : Value} {f : Tms} {cs : Array Value} (h : OwnTIn w B C v n f) (hz : w.heap[b]? = some (.cells cs 36 (0, 0))) (o : Nat) (x : Value) :
    OwnTIn (w.setCell ⟨b, o, none⟩ x) B C v n f := by
  rcases h with h | ⟨g, cap, e, h, hC⟩
  · exact .inl h
  · have hne : g ≠ b := by
      obtain ⟨_, _, _, cur, hh, _⟩ := h
      exact ne_of_type hh hz (by decide)
    exact .inr ⟨g, cap, e, h.block (Below.heap_setCell _ ⟨b, o, none⟩ x g hne), hC⟩
theorem OwnTRow.innAt {w : World} {B C n : Nat} {v : Value} {f : Tms} (h : OwnTRow w B v n f) (hC : C = w.heap.size) : OwnTIn w B C v n f := by
  subst hC
  rcases h with h | ⟨g, cap, e, h⟩
  · exact .inl h
  · exact .inr ⟨g, cap, e, h, h.lt⟩
theorem OwnTIn.own {w : World} {B C n : Nat} {v : Value} {f : Tms} (h : OwnTIn w B C v n f) : OwnTRow w B v n f := by
  rcases h with h | ⟨g, cap, e, h, _⟩
  · exact .inl h
  · exact .inr ⟨g, cap, e, h⟩
theorem OwnMem.setM {w : World} {B b : Nat} {tv pv : Value} {N : Me} {cs : Array Value} (h : OwnMem w B tv pv N) (hz : w.heap[b]? = some (.cells cs 36 (0, 0))) (o : Nat) (x : Value) : OwnMem (w.setCell ⟨b, o, none⟩ x) B tv pv N := by
  have s := (KeepsBut.refl [36] w).set hz (by decide) o x
  exact ⟨(h.inn.1.keeps s (by decide)).own, (h.inn.2.keeps s (by decide) (by decide)).own⟩
theorem OwnRow.block_ge {w : World} {B n : Nat} {v : Value} {f : Slots} (h : OwnRow w B v n f) : ∀ x, v.ownBlock = some x → B ≤ x := by
  intro x hx
  rcases h with ⟨_, rfl⟩ | ⟨g, cap, rfl, h⟩
  · simp [Value.ownBlock] at hx
  · simp [Value.ownBlock] at hx
    subst hx
    exact h.1
theorem block_set3 {w : World} {b : Nat} {x y z x' y' z' : Value} {t : TypeId} (h : w.heap[b]? = some (.cells #[x, y, z] t (0, 0))) :
    (((w.setCell ⟨b, 0, none⟩ x').setCell ⟨b, 1, none⟩ y').setCell ⟨b, 2, none⟩ z').heap[b]? = some (.cells #[x', y', z'] t (0, 0)) := block_setCell (i := 2) (block_setCell (i := 1) (block_setCell (i := 0) h x') y') z'

end Go.Proofs.YtngbcpmhejeheaaGreatDoor
