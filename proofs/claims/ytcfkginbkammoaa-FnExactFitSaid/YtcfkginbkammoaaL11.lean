/-
  Calls, in the program: what its code names, and what is not named is nought.
-/
import Derived.Test.YtcfkginbkammoaaL10
import Derived.Test.YtcfkginbkammoaaL08
import Derived.Test.YtcfkginbkammoaaL00
namespace Go.Proofs.Ytcfkginbkammoaa
open Go.RowKit Go.Joins
set_option linter.unusedVariables false

/-- there may be such a timer -/
def mayB (a b c t : Int) : Bool := planB a b c && inB t 0 (c - 1)
def imNamedB (a b c : Int) (q : Ca) : Bool :=
  if q.code = 1 then inB q.a 0 1 && (inB q.b 0 1000000000 && inB q.c 0 1000000000) else
  if q.code = 2 then mayB a b c q.a else
  if q.code = 3 then mayB a b c q.a && inB q.b 0 1000000000 else
  if q.code = 4 then procB a b c q.a else
  if q.code = 5 then procB a b c q.a && (procB a b c q.b && q.a != q.b) else
  if q.code = 6 then mayB a b c q.a else false
def imRestB (q : Ca) : Bool :=
  if q.code = 2 ∨ q.code = 4 ∨ q.code = 6 then q.b == 0 && q.c == 0 else if q.code = 3 ∨ q.code = 5 then q.c == 0 else true
theorem im_named {a b c : Int} {q : Ca} (h : planB a b c = true) : (imNamedB a b c q && imRestB q) = callB a b c q := by
  obtain ⟨k, x, y, z⟩ := q
  simp only [callB, h, imNamedB, imRestB, namedB, mayB, Bool.true_and]
  by_cases c1 : k = 1
  · subst c1; simp
  by_cases c2 : k = 2
  · subst c2; simp
  by_cases c3 : k = 3
  · subst c3; simp [Bool.and_assoc]
  by_cases c4 : k = 4
  · subst c4; simp
  by_cases c5 : k = 5
  · subst c5; simp [Bool.and_assoc]
  by_cases c6 : k = 6
  · subst c6; simp
  simp [c1, c2, c3, c4, c5, c6]

set_option maxHeartbeats 400000 in
theorem mayHave_any (a b c n : Int) (w : World) :
    Calls Try.prog 62 #[.agg #[.int .i64 a, .int .i64 b, .int .i64 c], .int .i64 n] w fun e w' => e = .returned (.bool (mayB a b c n)) ∧ Below w.heap.size w w' := by
  have k0 := (Below.refl w.heap.size w).alloc (Nat.le_refl _) (.cells #[.int .i64 a, .int .i64 b, .int .i64 c] 34)
  have kk := Below.refl (w.alloc (.cells #[.int .i64 a, .int .i64 b, .int .i64 c] 34)).heap.size (w.alloc (.cells #[.int .i64 a, .int .i64 b, .int .i64 c] 34))
  cases h1 : planB a b c
  · skip
    rw [show mayB a b c n = false by simp [mayB, h1]]
    go_enter Try.func62, Try.ntmps62
    go_wp2_with (first
      | (go_at_call 43; refine (right_any _ _ _ _).mono ?_; rintro e w1 ⟨rfl, hb⟩; replace kk := kk.trans (hb.mono kk.size); clear hb; (try clear hc hf); obtain ⟨hc, hf⟩ := bcell kk)
      | (go_at_call 47; refine (within_any _ _ _ _).mono ?_; rintro e w' ⟨rfl, rfl⟩))
    go_ret
    exact ⟨ret_bool' (by simp), k0.trans (kk.mono k0.size)⟩
  obtain ⟨⟨b2, b3⟩, ⟨b5, b6⟩, b1, b4⟩ := planB_iff.1 h1
  go_enter Try.func62, Try.ntmps62
  go_wp2_with (first
    | (go_at_call 43; refine (right_any _ _ _ _).mono ?_; rintro e w1 ⟨rfl, hb⟩; replace kk := kk.trans (hb.mono kk.size); clear hb; (try clear hc hf); obtain ⟨hc, hf⟩ := bcell kk)
    | (go_at_call 47; refine (within_any _ _ _ _).mono ?_; rintro e w' ⟨rfl, rfl⟩))
  go_ret
  exact ⟨ret_bool' (by simp [mayB, h1]), k0.trans (kk.mono k0.size)⟩

set_option maxRecDepth 100000 in
set_option maxHeartbeats 4000000 in
theorem named_four (a b c k x y z : Int) (w : World) :
    Calls Try.prog 78 #[.agg #[.int .i64 k, .int .i64 x, .int .i64 y, .int .i64 z], .agg #[.int .i64 a, .int .i64 b, .int .i64 c]] w fun e w' => e = .returned (.bool (imNamedB a b c ⟨k, x, y, z⟩)) ∧ Below w.heap.size w w' := by
  have k0 := ((Below.refl w.heap.size w).alloc (Nat.le_refl _) (.cells #[.int .i64 k, .int .i64 x, .int .i64 y, .int .i64 z] 41)).alloc (by simp) (.cells #[.int .i64 a, .int .i64 b, .int .i64 c] 34)
  have kk := Below.refl ((w.alloc (.cells #[.int .i64 k, .int .i64 x, .int .i64 y, .int .i64 z] 41)).alloc (.cells #[.int .i64 a, .int .i64 b, .int .i64 c] 34)).heap.size ((w.alloc (.cells #[.int .i64 k, .int .i64 x, .int .i64 y, .int .i64 z] 41)).alloc (.cells #[.int .i64 a, .int .i64 b, .int .i64 c] 34))
  by_cases c1 : k = 1
  case pos =>
    subst c1
    cases h2 : inB x 0 1
    · skip
      rw [show imNamedB a b c ⟨1, x, y, z⟩ = false by simp [imNamedB, h2]]
      go_enter Try.func78, Try.ntmps78
      go_wp2_with (first
        | (go_at_call 62; refine (mayHave_any _ _ _ _ _).mono ?_; rintro e w1 ⟨rfl, hb⟩; replace kk := kk.trans (hb.mono kk.size); clear hb; (try clear hc hf); obtain ⟨hc, hf⟩ := bcell kk)
        | (go_at_call 81; refine (hasProc_any _ _ _ _ _).mono ?_; rintro e w1 ⟨rfl, hb⟩; replace kk := kk.trans (hb.mono kk.size); clear hb; (try clear hc hf); obtain ⟨hc, hf⟩ := bcell kk)
        | (go_at_call 47; refine (within_any _ _ _ _).mono ?_; rintro e w' ⟨rfl, rfl⟩)
        | (go_at_call 61; refine (isTime_any _ _).mono ?_; rintro e w' ⟨rfl, rfl⟩))
      go_ret
      exact ⟨ret_bool' (by simp), k0.trans (kk.mono k0.size)⟩
    cases h3 : inB y 0 1000000000
    · skip
      rw [show imNamedB a b c ⟨1, x, y, z⟩ = false by simp [imNamedB, h2, h3]]
      go_enter Try.func78, Try.ntmps78
      go_wp2_with (first
        | (go_at_call 62; refine (mayHave_any _ _ _ _ _).mono ?_; rintro e w1 ⟨rfl, hb⟩; replace kk := kk.trans (hb.mono kk.size); clear hb; (try clear hc hf); obtain ⟨hc, hf⟩ := bcell kk)
        | (go_at_call 81; refine (hasProc_any _ _ _ _ _).mono ?_; rintro e w1 ⟨rfl, hb⟩; replace kk := kk.trans (hb.mono kk.size); clear hb; (try clear hc hf); obtain ⟨hc, hf⟩ := bcell kk)
        | (go_at_call 47; refine (within_any _ _ _ _).mono ?_; rintro e w' ⟨rfl, rfl⟩)
        | (go_at_call 61; refine (isTime_any _ _).mono ?_; rintro e w' ⟨rfl, rfl⟩))
      go_ret
      exact ⟨ret_bool' (by simp), k0.trans (kk.mono k0.size)⟩
    go_enter Try.func78, Try.ntmps78
    go_wp2_with (first
      | (go_at_call 62; refine (mayHave_any _ _ _ _ _).mono ?_; rintro e w1 ⟨rfl, hb⟩; replace kk := kk.trans (hb.mono kk.size); clear hb; (try clear hc hf); obtain ⟨hc, hf⟩ := bcell kk)
      | (go_at_call 81; refine (hasProc_any _ _ _ _ _).mono ?_; rintro e w1 ⟨rfl, hb⟩; replace kk := kk.trans (hb.mono kk.size); clear hb; (try clear hc hf); obtain ⟨hc, hf⟩ := bcell kk)
      | (go_at_call 47; refine (within_any _ _ _ _).mono ?_; rintro e w' ⟨rfl, rfl⟩)
      | (go_at_call 61; refine (isTime_any _ _).mono ?_; rintro e w' ⟨rfl, rfl⟩))
    go_ret
    exact ⟨ret_bool' (by simp [imNamedB, h2, h3]), k0.trans (kk.mono k0.size)⟩
  by_cases c2 : k = 2
  case pos =>
    subst c2
    go_enter Try.func78, Try.ntmps78
    go_wp2_with (first
      | (go_at_call 62; refine (mayHave_any _ _ _ _ _).mono ?_; rintro e w1 ⟨rfl, hb⟩; replace kk := kk.trans (hb.mono kk.size); clear hb; (try clear hc hf); obtain ⟨hc, hf⟩ := bcell kk)
      | (go_at_call 81; refine (hasProc_any _ _ _ _ _).mono ?_; rintro e w1 ⟨rfl, hb⟩; replace kk := kk.trans (hb.mono kk.size); clear hb; (try clear hc hf); obtain ⟨hc, hf⟩ := bcell kk)
      | (go_at_call 47; refine (within_any _ _ _ _).mono ?_; rintro e w' ⟨rfl, rfl⟩)
      | (go_at_call 61; refine (isTime_any _ _).mono ?_; rintro e w' ⟨rfl, rfl⟩))
    go_ret
    exact ⟨ret_bool' (by simp [imNamedB]), k0.trans (kk.mono k0.size)⟩
  by_cases c3 : k = 3
  case pos =>
    subst c3
    cases h2 : mayB a b c x
    · skip
      rw [show imNamedB a b c ⟨3, x, y, z⟩ = false by simp [imNamedB, h2]]
      go_enter Try.func78, Try.ntmps78
      go_wp2_with (first
        | (go_at_call 62; refine (mayHave_any _ _ _ _ _).mono ?_; rintro e w1 ⟨rfl, hb⟩; replace kk := kk.trans (hb.mono kk.size); clear hb; (try clear hc hf); obtain ⟨hc, hf⟩ := bcell kk)
        | (go_at_call 81; refine (hasProc_any _ _ _ _ _).mono ?_; rintro e w1 ⟨rfl, hb⟩; replace kk := kk.trans (hb.mono kk.size); clear hb; (try clear hc hf); obtain ⟨hc, hf⟩ := bcell kk)
        | (go_at_call 47; refine (within_any _ _ _ _).mono ?_; rintro e w' ⟨rfl, rfl⟩)
        | (go_at_call 61; refine (isTime_any _ _).mono ?_; rintro e w' ⟨rfl, rfl⟩))
      go_ret
      exact ⟨ret_bool' (by simp), k0.trans (kk.mono k0.size)⟩
    go_enter Try.func78, Try.ntmps78
    go_wp2_with (first
      | (go_at_call 62; refine (mayHave_any _ _ _ _ _).mono ?_; rintro e w1 ⟨rfl, hb⟩; replace kk := kk.trans (hb.mono kk.size); clear hb; (try clear hc hf); obtain ⟨hc, hf⟩ := bcell kk)
      | (go_at_call 81; refine (hasProc_any _ _ _ _ _).mono ?_; rintro e w1 ⟨rfl, hb⟩; replace kk := kk.trans (hb.mono kk.size); clear hb; (try clear hc hf); obtain ⟨hc, hf⟩ := bcell kk)
      | (go_at_call 47; refine (within_any _ _ _ _).mono ?_; rintro e w' ⟨rfl, rfl⟩)
      | (go_at_call 61; refine (isTime_any _ _).mono ?_; rintro e w' ⟨rfl, rfl⟩))
    go_ret
    exact ⟨ret_bool' (by simp [imNamedB, h2]), k0.trans (kk.mono k0.size)⟩
  by_cases c4 : k = 4
  case pos =>
    subst c4
    go_enter Try.func78, Try.ntmps78
    go_wp2_with (first
      | (go_at_call 62; refine (mayHave_any _ _ _ _ _).mono ?_; rintro e w1 ⟨rfl, hb⟩; replace kk := kk.trans (hb.mono kk.size); clear hb; (try clear hc hf); obtain ⟨hc, hf⟩ := bcell kk)
      | (go_at_call 81; refine (hasProc_any _ _ _ _ _).mono ?_; rintro e w1 ⟨rfl, hb⟩; replace kk := kk.trans (hb.mono kk.size); clear hb; (try clear hc hf); obtain ⟨hc, hf⟩ := bcell kk)
      | (go_at_call 47; refine (within_any _ _ _ _).mono ?_; rintro e w' ⟨rfl, rfl⟩)
      | (go_at_call 61; refine (isTime_any _ _).mono ?_; rintro e w' ⟨rfl, rfl⟩))
    go_ret
    exact ⟨ret_bool' (by simp [imNamedB]), k0.trans (kk.mono k0.size)⟩
  by_cases c5 : k = 5
  case pos =>
    subst c5
    cases h2 : procB a b c x
    · skip
      rw [show imNamedB a b c ⟨5, x, y, z⟩ = false by simp [imNamedB, h2]]
      go_enter Try.func78, Try.ntmps78
      go_wp2_with (first
        | (go_at_call 62; refine (mayHave_any _ _ _ _ _).mono ?_; rintro e w1 ⟨rfl, hb⟩; replace kk := kk.trans (hb.mono kk.size); clear hb; (try clear hc hf); obtain ⟨hc, hf⟩ := bcell kk)
        | (go_at_call 81; refine (hasProc_any _ _ _ _ _).mono ?_; rintro e w1 ⟨rfl, hb⟩; replace kk := kk.trans (hb.mono kk.size); clear hb; (try clear hc hf); obtain ⟨hc, hf⟩ := bcell kk)
        | (go_at_call 47; refine (within_any _ _ _ _).mono ?_; rintro e w' ⟨rfl, rfl⟩)
        | (go_at_call 61; refine (isTime_any _ _).mono ?_; rintro e w' ⟨rfl, rfl⟩))
      go_ret
      exact ⟨ret_bool' (by simp), k0.trans (kk.mono k0.size)⟩
    cases h3 : procB a b c y
    · skip
      rw [show imNamedB a b c ⟨5, x, y, z⟩ = false by simp [imNamedB, h2, h3]]
      go_enter Try.func78, Try.ntmps78
      go_wp2_with (first
        | (go_at_call 62; refine (mayHave_any _ _ _ _ _).mono ?_; rintro e w1 ⟨rfl, hb⟩; replace kk := kk.trans (hb.mono kk.size); clear hb; (try clear hc hf); obtain ⟨hc, hf⟩ := bcell kk)
        | (go_at_call 81; refine (hasProc_any _ _ _ _ _).mono ?_; rintro e w1 ⟨rfl, hb⟩; replace kk := kk.trans (hb.mono kk.size); clear hb; (try clear hc hf); obtain ⟨hc, hf⟩ := bcell kk)
        | (go_at_call 47; refine (within_any _ _ _ _).mono ?_; rintro e w' ⟨rfl, rfl⟩)
        | (go_at_call 61; refine (isTime_any _ _).mono ?_; rintro e w' ⟨rfl, rfl⟩))
      go_ret
      exact ⟨ret_bool' (by simp), k0.trans (kk.mono k0.size)⟩
    go_enter Try.func78, Try.ntmps78
    go_wp2_with (first
      | (go_at_call 62; refine (mayHave_any _ _ _ _ _).mono ?_; rintro e w1 ⟨rfl, hb⟩; replace kk := kk.trans (hb.mono kk.size); clear hb; (try clear hc hf); obtain ⟨hc, hf⟩ := bcell kk)
      | (go_at_call 81; refine (hasProc_any _ _ _ _ _).mono ?_; rintro e w1 ⟨rfl, hb⟩; replace kk := kk.trans (hb.mono kk.size); clear hb; (try clear hc hf); obtain ⟨hc, hf⟩ := bcell kk)
      | (go_at_call 47; refine (within_any _ _ _ _).mono ?_; rintro e w' ⟨rfl, rfl⟩)
      | (go_at_call 61; refine (isTime_any _ _).mono ?_; rintro e w' ⟨rfl, rfl⟩))
    go_ret
    exact ⟨ret_bool' (by simp [imNamedB, h2, h3]), k0.trans (kk.mono k0.size)⟩
  by_cases c6 : k = 6
  case pos =>
    subst c6
    go_enter Try.func78, Try.ntmps78
    go_wp2_with (first
      | (go_at_call 62; refine (mayHave_any _ _ _ _ _).mono ?_; rintro e w1 ⟨rfl, hb⟩; replace kk := kk.trans (hb.mono kk.size); clear hb; (try clear hc hf); obtain ⟨hc, hf⟩ := bcell kk)
      | (go_at_call 81; refine (hasProc_any _ _ _ _ _).mono ?_; rintro e w1 ⟨rfl, hb⟩; replace kk := kk.trans (hb.mono kk.size); clear hb; (try clear hc hf); obtain ⟨hc, hf⟩ := bcell kk)
      | (go_at_call 47; refine (within_any _ _ _ _).mono ?_; rintro e w' ⟨rfl, rfl⟩)
      | (go_at_call 61; refine (isTime_any _ _).mono ?_; rintro e w' ⟨rfl, rfl⟩))
    go_ret
    exact ⟨ret_bool' (by simp [imNamedB]), k0.trans (kk.mono k0.size)⟩
  have c1b : (k == 1) = false := by simpa using c1
  have c2b : (k == 2) = false := by simpa using c2
  have c3b : (k == 3) = false := by simpa using c3
  have c4b : (k == 4) = false := by simpa using c4
  have c5b : (k == 5) = false := by simpa using c5
  have c6b : (k == 6) = false := by simpa using c6
  rw [show imNamedB a b c ⟨k, x, y, z⟩ = false by simp [imNamedB, c1, c2, c3, c4, c5, c6]]
  go_enter Try.func78, Try.ntmps78
  go_wp2_with (first
    | (go_at_call 62; refine (mayHave_any _ _ _ _ _).mono ?_; rintro e w1 ⟨rfl, hb⟩; replace kk := kk.trans (hb.mono kk.size); clear hb; (try clear hc hf); obtain ⟨hc, hf⟩ := bcell kk)
    | (go_at_call 81; refine (hasProc_any _ _ _ _ _).mono ?_; rintro e w1 ⟨rfl, hb⟩; replace kk := kk.trans (hb.mono kk.size); clear hb; (try clear hc hf); obtain ⟨hc, hf⟩ := bcell kk)
    | (go_at_call 47; refine (within_any _ _ _ _).mono ?_; rintro e w' ⟨rfl, rfl⟩)
    | (go_at_call 61; refine (isTime_any _ _).mono ?_; rintro e w' ⟨rfl, rfl⟩))
  go_ret
  exact ⟨ret_bool' (by simp), k0.trans (kk.mono k0.size)⟩

set_option maxRecDepth 100000 in
set_option maxHeartbeats 4000000 in
theorem restZero_four (k x y z : Int) (w : World) :
    Calls Try.prog 79 #[.agg #[.int .i64 k, .int .i64 x, .int .i64 y, .int .i64 z]] w fun e w' => e = .returned (.bool (imRestB ⟨k, x, y, z⟩)) ∧ Below w.heap.size w w' := by
  have k0 := (Below.refl w.heap.size w).alloc (Nat.le_refl _) (.cells #[.int .i64 k, .int .i64 x, .int .i64 y, .int .i64 z] 41)
  by_cases c2 : k = 2
  case pos =>
    subst c2
    by_cases h1 : y = 0
    case neg =>
      have h1b : (y == 0) = false := by simpa using h1
      have h1c : (y != 0) = true := by simpa using h1
      rw [show imRestB ⟨2, x, y, z⟩ = false by simp [imRestB, h1]]
      go_enter Try.func79, Try.ntmps79
      go_wp2
      go_ret
      exact ⟨ret_bool' (by simp), k0⟩
    subst h1
    go_enter Try.func79, Try.ntmps79
    go_wp2
    go_ret
    exact ⟨ret_bool' (by simp [imRestB]), k0⟩
  by_cases c3 : k = 3
  case pos =>
    subst c3
    go_enter Try.func79, Try.ntmps79
    go_wp2
    go_ret
    exact ⟨ret_bool' (by simp [imRestB]), k0⟩
  by_cases c4 : k = 4
  case pos =>
    subst c4
    by_cases h1 : y = 0
    case neg =>
      have h1b : (y == 0) = false := by simpa using h1
      have h1c : (y != 0) = true := by simpa using h1
      rw [show imRestB ⟨4, x, y, z⟩ = false by simp [imRestB, h1]]
      go_enter Try.func79, Try.ntmps79
      go_wp2
      go_ret
      exact ⟨ret_bool' (by simp), k0⟩
    subst h1
    go_enter Try.func79, Try.ntmps79
    go_wp2
    go_ret
    exact ⟨ret_bool' (by simp [imRestB]), k0⟩
  by_cases c5 : k = 5
  case pos =>
    subst c5
    go_enter Try.func79, Try.ntmps79
    go_wp2
    go_ret
    exact ⟨ret_bool' (by simp [imRestB]), k0⟩
  by_cases c6 : k = 6
  case pos =>
    subst c6
    by_cases h1 : y = 0
    case neg =>
      have h1b : (y == 0) = false := by simpa using h1
      have h1c : (y != 0) = true := by simpa using h1
      rw [show imRestB ⟨6, x, y, z⟩ = false by simp [imRestB, h1]]
      go_enter Try.func79, Try.ntmps79
      go_wp2
      go_ret
      exact ⟨ret_bool' (by simp), k0⟩
    subst h1
    go_enter Try.func79, Try.ntmps79
    go_wp2
    go_ret
    exact ⟨ret_bool' (by simp [imRestB]), k0⟩
  have c2b : (k == 2) = false := by simpa using c2
  have c3b : (k == 3) = false := by simpa using c3
  have c4b : (k == 4) = false := by simpa using c4
  have c5b : (k == 5) = false := by simpa using c5
  have c6b : (k == 6) = false := by simpa using c6
  rw [show imRestB ⟨k, x, y, z⟩ = true by simp [imRestB, c2, c3, c4, c5, c6]]
  go_enter Try.func79, Try.ntmps79
  go_wp2
  go_ret
  exact ⟨ret_bool' (by simp), k0⟩

set_option maxRecDepth 100000 in
set_option maxHeartbeats 1000000 in
theorem rightInC_four (a b c k x y z : Int) (w : World) :
    Calls Try.prog 64 #[.agg #[.int .i64 k, .int .i64 x, .int .i64 y, .int .i64 z], .agg #[.int .i64 a, .int .i64 b, .int .i64 c]] w fun e w' => e = .returned (.bool (imNamedB a b c ⟨k, x, y, z⟩ && imRestB ⟨k, x, y, z⟩)) ∧ Below w.heap.size w w' := by
  have k0 := ((Below.refl w.heap.size w).alloc (Nat.le_refl _) (.cells #[.int .i64 k, .int .i64 x, .int .i64 y, .int .i64 z] 41)).alloc (by simp) (.cells #[.int .i64 a, .int .i64 b, .int .i64 c] 34)
  have kk := Below.refl ((w.alloc (.cells #[.int .i64 k, .int .i64 x, .int .i64 y, .int .i64 z] 41)).alloc (.cells #[.int .i64 a, .int .i64 b, .int .i64 c] 34)).heap.size ((w.alloc (.cells #[.int .i64 k, .int .i64 x, .int .i64 y, .int .i64 z] 41)).alloc (.cells #[.int .i64 a, .int .i64 b, .int .i64 c] 34))
  cases h1 : imNamedB a b c ⟨k, x, y, z⟩
  · skip
    go_enter Try.func64, Try.ntmps64
    go_wp2_with (first
      | (go_at_call 78; refine (named_four _ _ _ _ _ _ _ _).mono ?_; rintro e w1 ⟨rfl, hb⟩; replace kk := kk.trans (hb.mono kk.size); clear hb; (try clear hc hf); obtain ⟨hc, hf⟩ := bcell kk)
      | (go_at_call 79; refine (restZero_four _ _ _ _ _).mono ?_; rintro e w1 ⟨rfl, hb⟩; replace kk := kk.trans (hb.mono kk.size); clear hb; (try clear hc hf); obtain ⟨hc, hf⟩ := bcell kk))
    go_ret
    exact ⟨ret_bool' (by simp []), k0.trans (kk.mono k0.size)⟩
  go_enter Try.func64, Try.ntmps64
  go_wp2_with (first
    | (go_at_call 78; refine (named_four _ _ _ _ _ _ _ _).mono ?_; rintro e w1 ⟨rfl, hb⟩; replace kk := kk.trans (hb.mono kk.size); clear hb; (try clear hc hf); obtain ⟨hc, hf⟩ := bcell kk)
    | (go_at_call 79; refine (restZero_four _ _ _ _ _).mono ?_; rintro e w1 ⟨rfl, hb⟩; replace kk := kk.trans (hb.mono kk.size); clear hb; (try clear hc hf); obtain ⟨hc, hf⟩ := bcell kk))
  go_ret
  exact ⟨ret_bool' (by simp []), k0.trans (kk.mono k0.size)⟩

end Go.Proofs.Ytcfkginbkammoaa

/-
  Hands, in the program.
-/
namespace Go.Proofs.Ytcfkginbkammoaa
open Go.RowKit Go.Joins
set_option linter.unusedVariables false

def beganB (h : Hd) : Bool := h.pos == 0 && noneB h.call
def timB (a b c : Int) (h : Hd) : Bool := h.tim == -1 || mayB a b c h.tim
def hcallB (a b c : Int) (h : Hd) : Bool := beganB h || (imNamedB a b c h.call && imRestB h.call)

set_option maxRecDepth 100000 in
set_option maxHeartbeats 1000000 in
theorem notBegun_twelve (po k x y z ti wh : Int) (ha : Bool) (cn be re ou : Int) (w : World) : Calls Try.prog 63 #[.agg #[.int .i64 po, .int .i64 k, .int .i64 x, .int .i64 y, .int .i64 z, .int .i64 ti, .int .i64 wh, .bool ha, .int .i64 cn, .int .i64 be, .int .i64 re, .int .i64 ou]] w fun e w' => e = .returned (.bool (beganB ⟨po, ⟨k, x, y, z⟩, ti, wh, ha, cn, be, re, ou⟩)) ∧ Below w.heap.size w w' := by
  have k0 := ((Below.refl w.heap.size w).alloc (Nat.le_refl _) (.cells #[.int .i64 po, .int .i64 k, .int .i64 x, .int .i64 y, .int .i64 z, .int .i64 ti, .int .i64 wh, .bool ha, .int .i64 cn, .int .i64 be, .int .i64 re, .int .i64 ou] 43))
  have kk := Below.refl (w.alloc (.cells #[.int .i64 po, .int .i64 k, .int .i64 x, .int .i64 y, .int .i64 z, .int .i64 ti, .int .i64 wh, .bool ha, .int .i64 cn, .int .i64 be, .int .i64 re, .int .i64 ou] 43)).heap.size (w.alloc (.cells #[.int .i64 po, .int .i64 k, .int .i64 x, .int .i64 y, .int .i64 z, .int .i64 ti, .int .i64 wh, .bool ha, .int .i64 cn, .int .i64 be, .int .i64 re, .int .i64 ou] 43))
  by_cases h0 : po = 0
  case neg =>
    have h0b : (po == 0) = false := by simpa using h0
    rw [show beganB ⟨po, ⟨k, x, y, z⟩, ti, wh, ha, cn, be, re, ou⟩ = false by simp [beganB, noneB, h0]]
    go_enter Try.func63, Try.ntmps63
    go_wp2
    all_goals
      go_ret
      exact ⟨ret_bool' (by simp), k0.trans (kk.mono k0.size)⟩
  subst h0
  by_cases h1 : k = 0
  case neg =>
    rw [show beganB ⟨0, ⟨k, x, y, z⟩, ti, wh, ha, cn, be, re, ou⟩ = false by simp [beganB, noneB, h1]]
    go_enter Try.func63, Try.ntmps63
    go_wp2
    all_goals
      go_ret
      exact ⟨ret_bool' (by simp), k0.trans (kk.mono k0.size)⟩
  subst h1
  by_cases h2 : x = 0
  case neg =>
    rw [show beganB ⟨0, ⟨0, x, y, z⟩, ti, wh, ha, cn, be, re, ou⟩ = false by simp [beganB, noneB, h2]]
    go_enter Try.func63, Try.ntmps63
    go_wp2
    all_goals
      go_ret
      exact ⟨ret_bool' (by simp), k0.trans (kk.mono k0.size)⟩
  subst h2
  by_cases h3 : y = 0
  case neg =>
    rw [show beganB ⟨0, ⟨0, 0, y, z⟩, ti, wh, ha, cn, be, re, ou⟩ = false by simp [beganB, noneB, h3]]
    go_enter Try.func63, Try.ntmps63
    go_wp2
    all_goals
      go_ret
      exact ⟨ret_bool' (by simp), k0.trans (kk.mono k0.size)⟩
  subst h3
  by_cases h4 : z = 0
  case neg =>
    rw [show beganB ⟨0, ⟨0, 0, 0, z⟩, ti, wh, ha, cn, be, re, ou⟩ = false by simp [beganB, noneB, h4]]
    go_enter Try.func63, Try.ntmps63
    go_wp2
    all_goals
      go_ret
      exact ⟨ret_bool' (by simp), k0.trans (kk.mono k0.size)⟩
  subst h4
  rw [show beganB ⟨0, ⟨0, 0, 0, 0⟩, ti, wh, ha, cn, be, re, ou⟩ = true by simp [beganB, noneB]]
  go_enter Try.func63, Try.ntmps63
  go_wp2
  all_goals
    go_ret
    exact ⟨ret_bool' (by simp), k0.trans (kk.mono k0.size)⟩

set_option maxRecDepth 100000 in
set_option maxHeartbeats 1000000 in
theorem timerRightH_twelve (a b c : Int) (po k x y z ti wh : Int) (ha : Bool) (cn be re ou : Int) (w : World) : Calls Try.prog 45 #[.agg #[.int .i64 po, .int .i64 k, .int .i64 x, .int .i64 y, .int .i64 z, .int .i64 ti, .int .i64 wh, .bool ha, .int .i64 cn, .int .i64 be, .int .i64 re, .int .i64 ou], .agg #[.int .i64 a, .int .i64 b, .int .i64 c]] w fun e w' => e = .returned (.bool (timB a b c ⟨po, ⟨k, x, y, z⟩, ti, wh, ha, cn, be, re, ou⟩)) ∧ Below w.heap.size w w' := by
  have k0 := (((Below.refl w.heap.size w).alloc (Nat.le_refl _) (.cells #[.int .i64 po, .int .i64 k, .int .i64 x, .int .i64 y, .int .i64 z, .int .i64 ti, .int .i64 wh, .bool ha, .int .i64 cn, .int .i64 be, .int .i64 re, .int .i64 ou] 43)).alloc (by simp) (.cells #[.int .i64 a, .int .i64 b, .int .i64 c] 34))
  have kk := Below.refl ((w.alloc (.cells #[.int .i64 po, .int .i64 k, .int .i64 x, .int .i64 y, .int .i64 z, .int .i64 ti, .int .i64 wh, .bool ha, .int .i64 cn, .int .i64 be, .int .i64 re, .int .i64 ou] 43)).alloc (.cells #[.int .i64 a, .int .i64 b, .int .i64 c] 34)).heap.size ((w.alloc (.cells #[.int .i64 po, .int .i64 k, .int .i64 x, .int .i64 y, .int .i64 z, .int .i64 ti, .int .i64 wh, .bool ha, .int .i64 cn, .int .i64 be, .int .i64 re, .int .i64 ou] 43)).alloc (.cells #[.int .i64 a, .int .i64 b, .int .i64 c] 34))
  by_cases h1 : ti = -1
  case pos =>
    subst h1
    rw [show timB a b c ⟨po, ⟨k, x, y, z⟩, -1, wh, ha, cn, be, re, ou⟩ = true by simp [timB]]
    go_enter Try.func45, Try.ntmps45
    go_wp2_with (first
      | (go_at_call 62; refine (mayHave_any _ _ _ _ _).mono ?_; rintro e w1 ⟨rfl, hb⟩; replace kk := kk.trans (hb.mono kk.size); clear hb; (try clear hc hf); obtain ⟨hc, hf⟩ := bcell kk))
    go_ret
    exact ⟨ret_bool' (by simp), k0.trans (kk.mono k0.size)⟩
  have h1b : (ti == -1) = false := by simpa using h1
  go_enter Try.func45, Try.ntmps45
  go_wp2_with (first
    | (go_at_call 62; refine (mayHave_any _ _ _ _ _).mono ?_; rintro e w1 ⟨rfl, hb⟩; replace kk := kk.trans (hb.mono kk.size); clear hb; (try clear hc hf); obtain ⟨hc, hf⟩ := bcell kk))
  go_ret
  exact ⟨ret_bool' (by simp [timB, h1]), k0.trans (kk.mono k0.size)⟩

set_option maxRecDepth 100000 in
set_option maxHeartbeats 1000000 in
theorem callRightH_twelve (a b c : Int) (po k x y z ti wh : Int) (ha : Bool) (cn be re ou : Int) (w : World) : Calls Try.prog 46 #[.agg #[.int .i64 po, .int .i64 k, .int .i64 x, .int .i64 y, .int .i64 z, .int .i64 ti, .int .i64 wh, .bool ha, .int .i64 cn, .int .i64 be, .int .i64 re, .int .i64 ou], .agg #[.int .i64 a, .int .i64 b, .int .i64 c]] w fun e w' => e = .returned (.bool (hcallB a b c ⟨po, ⟨k, x, y, z⟩, ti, wh, ha, cn, be, re, ou⟩)) ∧ Below w.heap.size w w' := by
  have k0 := (((Below.refl w.heap.size w).alloc (Nat.le_refl _) (.cells #[.int .i64 po, .int .i64 k, .int .i64 x, .int .i64 y, .int .i64 z, .int .i64 ti, .int .i64 wh, .bool ha, .int .i64 cn, .int .i64 be, .int .i64 re, .int .i64 ou] 43)).alloc (by simp) (.cells #[.int .i64 a, .int .i64 b, .int .i64 c] 34))
  have kk := Below.refl ((w.alloc (.cells #[.int .i64 po, .int .i64 k, .int .i64 x, .int .i64 y, .int .i64 z, .int .i64 ti, .int .i64 wh, .bool ha, .int .i64 cn, .int .i64 be, .int .i64 re, .int .i64 ou] 43)).alloc (.cells #[.int .i64 a, .int .i64 b, .int .i64 c] 34)).heap.size ((w.alloc (.cells #[.int .i64 po, .int .i64 k, .int .i64 x, .int .i64 y, .int .i64 z, .int .i64 ti, .int .i64 wh, .bool ha, .int .i64 cn, .int .i64 be, .int .i64 re, .int .i64 ou] 43)).alloc (.cells #[.int .i64 a, .int .i64 b, .int .i64 c] 34))
  cases h1 : beganB ⟨po, ⟨k, x, y, z⟩, ti, wh, ha, cn, be, re, ou⟩
  case true =>
    rw [show hcallB a b c ⟨po, ⟨k, x, y, z⟩, ti, wh, ha, cn, be, re, ou⟩ = true by simp [hcallB, h1]]
    go_enter Try.func46, Try.ntmps46
    go_wp2_with (first
      | (go_at_call 63; refine (notBegun_twelve _ _ _ _ _ _ _ _ _ _ _ _ _).mono ?_; rintro e w1 ⟨rfl, hb⟩; replace kk := kk.trans (hb.mono kk.size); clear hb; (try clear hc hf); obtain ⟨hc, hf⟩ := bcell kk)
      | (go_at_call 64; refine (rightInC_four _ _ _ _ _ _ _ _).mono ?_; rintro e w1 ⟨rfl, hb⟩; replace kk := kk.trans (hb.mono kk.size); clear hb; (try clear hc hf); obtain ⟨hc, hf⟩ := bcell kk))
    go_ret
    exact ⟨ret_bool' (by simp), k0.trans (kk.mono k0.size)⟩
  go_enter Try.func46, Try.ntmps46
  go_wp2_with (first
    | (go_at_call 63; refine (notBegun_twelve _ _ _ _ _ _ _ _ _ _ _ _ _).mono ?_; rintro e w1 ⟨rfl, hb⟩; replace kk := kk.trans (hb.mono kk.size); clear hb; (try clear hc hf); obtain ⟨hc, hf⟩ := bcell kk)
    | (go_at_call 64; refine (rightInC_four _ _ _ _ _ _ _ _).mono ?_; rintro e w1 ⟨rfl, hb⟩; replace kk := kk.trans (hb.mono kk.size); clear hb; (try clear hc hf); obtain ⟨hc, hf⟩ := bcell kk))
  go_ret
  exact ⟨ret_bool' (by simp [hcallB, h1]), k0.trans (kk.mono k0.size)⟩

set_option maxRecDepth 100000 in
set_option maxHeartbeats 2000000 in
theorem numbersRightH_twelve (po k x y z ti wh : Int) (ha : Bool) (cn be re ou : Int) (w : World) : Calls Try.prog 44 #[.agg #[.int .i64 po, .int .i64 k, .int .i64 x, .int .i64 y, .int .i64 z, .int .i64 ti, .int .i64 wh, .bool ha, .int .i64 cn, .int .i64 be, .int .i64 re, .int .i64 ou]] w fun e w' => e = .returned (.bool (hdNumB ⟨po, ⟨k, x, y, z⟩, ti, wh, ha, cn, be, re, ou⟩)) ∧ Below w.heap.size w w' := by
  have k0 := ((Below.refl w.heap.size w).alloc (Nat.le_refl _) (.cells #[.int .i64 po, .int .i64 k, .int .i64 x, .int .i64 y, .int .i64 z, .int .i64 ti, .int .i64 wh, .bool ha, .int .i64 cn, .int .i64 be, .int .i64 re, .int .i64 ou] 43))
  have kk := Below.refl (w.alloc (.cells #[.int .i64 po, .int .i64 k, .int .i64 x, .int .i64 y, .int .i64 z, .int .i64 ti, .int .i64 wh, .bool ha, .int .i64 cn, .int .i64 be, .int .i64 re, .int .i64 ou] 43)).heap.size (w.alloc (.cells #[.int .i64 po, .int .i64 k, .int .i64 x, .int .i64 y, .int .i64 z, .int .i64 ti, .int .i64 wh, .bool ha, .int .i64 cn, .int .i64 be, .int .i64 re, .int .i64 ou] 43))
  cases h0 : inB po 0 18
  · skip
    rw [show hdNumB ⟨po, ⟨k, x, y, z⟩, ti, wh, ha, cn, be, re, ou⟩ = false by simp [hdNumB, h0]]
    go_enter Try.func44, Try.ntmps44
    go_wp2_with (first
      | (go_at_call 47; refine (within_any _ _ _ _).mono ?_; rintro e w' ⟨rfl, rfl⟩)
      | (go_at_call 61; refine (isTime_any _ _).mono ?_; rintro e w' ⟨rfl, rfl⟩))
    go_ret
    exact ⟨ret_bool' (by simp), k0.trans (kk.mono k0.size)⟩
  cases h1 : inB wh 0 1000000000
  · skip
    rw [show hdNumB ⟨po, ⟨k, x, y, z⟩, ti, wh, ha, cn, be, re, ou⟩ = false by simp [hdNumB, h0, h1]]
    go_enter Try.func44, Try.ntmps44
    go_wp2_with (first
      | (go_at_call 47; refine (within_any _ _ _ _).mono ?_; rintro e w' ⟨rfl, rfl⟩)
      | (go_at_call 61; refine (isTime_any _ _).mono ?_; rintro e w' ⟨rfl, rfl⟩))
    go_ret
    exact ⟨ret_bool' (by simp), k0.trans (kk.mono k0.size)⟩
  cases h2 : inB cn 0 1000
  · skip
    rw [show hdNumB ⟨po, ⟨k, x, y, z⟩, ti, wh, ha, cn, be, re, ou⟩ = false by simp [hdNumB, h0, h1, h2]]
    go_enter Try.func44, Try.ntmps44
    go_wp2_with (first
      | (go_at_call 47; refine (within_any _ _ _ _).mono ?_; rintro e w' ⟨rfl, rfl⟩)
      | (go_at_call 61; refine (isTime_any _ _).mono ?_; rintro e w' ⟨rfl, rfl⟩))
    go_ret
    exact ⟨ret_bool' (by simp), k0.trans (kk.mono k0.size)⟩
  cases h3 : inB be 0 20000
  · skip
    rw [show hdNumB ⟨po, ⟨k, x, y, z⟩, ti, wh, ha, cn, be, re, ou⟩ = false by simp [hdNumB, h0, h1, h2, h3]]
    go_enter Try.func44, Try.ntmps44
    go_wp2_with (first
      | (go_at_call 47; refine (within_any _ _ _ _).mono ?_; rintro e w' ⟨rfl, rfl⟩)
      | (go_at_call 61; refine (isTime_any _ _).mono ?_; rintro e w' ⟨rfl, rfl⟩))
    go_ret
    exact ⟨ret_bool' (by simp), k0.trans (kk.mono k0.size)⟩
  cases h4 : inB re 0 5
  · skip
    rw [show hdNumB ⟨po, ⟨k, x, y, z⟩, ti, wh, ha, cn, be, re, ou⟩ = false by simp [hdNumB, h0, h1, h2, h3, h4]]
    go_enter Try.func44, Try.ntmps44
    go_wp2_with (first
      | (go_at_call 47; refine (within_any _ _ _ _).mono ?_; rintro e w' ⟨rfl, rfl⟩)
      | (go_at_call 61; refine (isTime_any _ _).mono ?_; rintro e w' ⟨rfl, rfl⟩))
    go_ret
    exact ⟨ret_bool' (by simp), k0.trans (kk.mono k0.size)⟩
  go_enter Try.func44, Try.ntmps44
  go_wp2_with (first
    | (go_at_call 47; refine (within_any _ _ _ _).mono ?_; rintro e w' ⟨rfl, rfl⟩)
    | (go_at_call 61; refine (isTime_any _ _).mono ?_; rintro e w' ⟨rfl, rfl⟩))
  go_ret
  exact ⟨ret_bool' (by simp [hdNumB, h0, h1, h2, h3, h4]), k0.trans (kk.mono k0.size)⟩

theorem im_hand (a b c : Int) (h : Hd) : (planB a b c && (hdNumB h && (timB a b c h && hcallB a b c h))) = handB a b c h := by
  cases h1 : planB a b c
  · simp [handB, h1]
  obtain ⟨b0, b1, b2⟩ := planB_iff.1 h1
  have e : timB a b c h = inB h.tim (-1) (c - 1) := by
    rw [Bool.eq_iff_iff]
    simp [timB, mayB, h1, inB_iff]
    omega
  simp only [handB, h1, e, hcallB, beganB, im_named h1, Bool.true_and]
  rw [Bool.or_comm]

set_option maxRecDepth 100000 in
set_option maxHeartbeats 2000000 in
theorem imHandOk_twelve (a b c : Int) (po k x y z ti wh : Int) (ha : Bool) (cn be re ou : Int) (w : World) : Calls Try.prog 22 #[.agg #[.int .i64 a, .int .i64 b, .int .i64 c], .agg #[.int .i64 po, .int .i64 k, .int .i64 x, .int .i64 y, .int .i64 z, .int .i64 ti, .int .i64 wh, .bool ha, .int .i64 cn, .int .i64 be, .int .i64 re, .int .i64 ou]] w fun e w' => e = .returned (.bool (handB a b c ⟨po, ⟨k, x, y, z⟩, ti, wh, ha, cn, be, re, ou⟩)) ∧ Below w.heap.size w w' := by
  have k0 := (((Below.refl w.heap.size w).alloc (Nat.le_refl _) (.cells #[.int .i64 a, .int .i64 b, .int .i64 c] 34)).alloc (by simp) (.cells #[.int .i64 po, .int .i64 k, .int .i64 x, .int .i64 y, .int .i64 z, .int .i64 ti, .int .i64 wh, .bool ha, .int .i64 cn, .int .i64 be, .int .i64 re, .int .i64 ou] 43))
  have kk := Below.refl ((w.alloc (.cells #[.int .i64 a, .int .i64 b, .int .i64 c] 34)).alloc (.cells #[.int .i64 po, .int .i64 k, .int .i64 x, .int .i64 y, .int .i64 z, .int .i64 ti, .int .i64 wh, .bool ha, .int .i64 cn, .int .i64 be, .int .i64 re, .int .i64 ou] 43)).heap.size ((w.alloc (.cells #[.int .i64 a, .int .i64 b, .int .i64 c] 34)).alloc (.cells #[.int .i64 po, .int .i64 k, .int .i64 x, .int .i64 y, .int .i64 z, .int .i64 ti, .int .i64 wh, .bool ha, .int .i64 cn, .int .i64 be, .int .i64 re, .int .i64 ou] 43))
  rw [← im_hand]
  cases h0 : planB a b c
  · skip
    go_enter Try.func22, Try.ntmps22
    go_wp2_with (first
      | (go_at_call 43; refine (right_any _ _ _ _).mono ?_; rintro e w1 ⟨rfl, hb⟩; replace kk := kk.trans (hb.mono kk.size); clear hb; (try clear hc hf); obtain ⟨hc, hf⟩ := bcell kk)
      | (go_at_call 44; refine (numbersRightH_twelve _ _ _ _ _ _ _ _ _ _ _ _ _).mono ?_; rintro e w1 ⟨rfl, hb⟩; replace kk := kk.trans (hb.mono kk.size); clear hb; (try clear hc hf); obtain ⟨hc, hf⟩ := bcell kk)
      | (go_at_call 45; refine (timerRightH_twelve _ _ _ _ _ _ _ _ _ _ _ _ _ _ _ _).mono ?_; rintro e w1 ⟨rfl, hb⟩; replace kk := kk.trans (hb.mono kk.size); clear hb; (try clear hc hf); obtain ⟨hc, hf⟩ := bcell kk)
      | (go_at_call 46; refine (callRightH_twelve _ _ _ _ _ _ _ _ _ _ _ _ _ _ _ _).mono ?_; rintro e w1 ⟨rfl, hb⟩; replace kk := kk.trans (hb.mono kk.size); clear hb; (try clear hc hf); obtain ⟨hc, hf⟩ := bcell kk))
    go_ret
    exact ⟨ret_bool' (by simp []), k0.trans (kk.mono k0.size)⟩
  cases h1 : hdNumB ⟨po, ⟨k, x, y, z⟩, ti, wh, ha, cn, be, re, ou⟩
  · skip
    go_enter Try.func22, Try.ntmps22
    go_wp2_with (first
      | (go_at_call 43; refine (right_any _ _ _ _).mono ?_; rintro e w1 ⟨rfl, hb⟩; replace kk := kk.trans (hb.mono kk.size); clear hb; (try clear hc hf); obtain ⟨hc, hf⟩ := bcell kk)
      | (go_at_call 44; refine (numbersRightH_twelve _ _ _ _ _ _ _ _ _ _ _ _ _).mono ?_; rintro e w1 ⟨rfl, hb⟩; replace kk := kk.trans (hb.mono kk.size); clear hb; (try clear hc hf); obtain ⟨hc, hf⟩ := bcell kk)
      | (go_at_call 45; refine (timerRightH_twelve _ _ _ _ _ _ _ _ _ _ _ _ _ _ _ _).mono ?_; rintro e w1 ⟨rfl, hb⟩; replace kk := kk.trans (hb.mono kk.size); clear hb; (try clear hc hf); obtain ⟨hc, hf⟩ := bcell kk)
      | (go_at_call 46; refine (callRightH_twelve _ _ _ _ _ _ _ _ _ _ _ _ _ _ _ _).mono ?_; rintro e w1 ⟨rfl, hb⟩; replace kk := kk.trans (hb.mono kk.size); clear hb; (try clear hc hf); obtain ⟨hc, hf⟩ := bcell kk))
    go_ret
    exact ⟨ret_bool' (by simp []), k0.trans (kk.mono k0.size)⟩
  cases h2 : timB a b c ⟨po, ⟨k, x, y, z⟩, ti, wh, ha, cn, be, re, ou⟩
  · skip
    go_enter Try.func22, Try.ntmps22
    go_wp2_with (first
      | (go_at_call 43; refine (right_any _ _ _ _).mono ?_; rintro e w1 ⟨rfl, hb⟩; replace kk := kk.trans (hb.mono kk.size); clear hb; (try clear hc hf); obtain ⟨hc, hf⟩ := bcell kk)
      | (go_at_call 44; refine (numbersRightH_twelve _ _ _ _ _ _ _ _ _ _ _ _ _).mono ?_; rintro e w1 ⟨rfl, hb⟩; replace kk := kk.trans (hb.mono kk.size); clear hb; (try clear hc hf); obtain ⟨hc, hf⟩ := bcell kk)
      | (go_at_call 45; refine (timerRightH_twelve _ _ _ _ _ _ _ _ _ _ _ _ _ _ _ _).mono ?_; rintro e w1 ⟨rfl, hb⟩; replace kk := kk.trans (hb.mono kk.size); clear hb; (try clear hc hf); obtain ⟨hc, hf⟩ := bcell kk)
      | (go_at_call 46; refine (callRightH_twelve _ _ _ _ _ _ _ _ _ _ _ _ _ _ _ _).mono ?_; rintro e w1 ⟨rfl, hb⟩; replace kk := kk.trans (hb.mono kk.size); clear hb; (try clear hc hf); obtain ⟨hc, hf⟩ := bcell kk))
    go_ret
    exact ⟨ret_bool' (by simp []), k0.trans (kk.mono k0.size)⟩
  go_enter Try.func22, Try.ntmps22
  go_wp2_with (first
    | (go_at_call 43; refine (right_any _ _ _ _).mono ?_; rintro e w1 ⟨rfl, hb⟩; replace kk := kk.trans (hb.mono kk.size); clear hb; (try clear hc hf); obtain ⟨hc, hf⟩ := bcell kk)
    | (go_at_call 44; refine (numbersRightH_twelve _ _ _ _ _ _ _ _ _ _ _ _ _).mono ?_; rintro e w1 ⟨rfl, hb⟩; replace kk := kk.trans (hb.mono kk.size); clear hb; (try clear hc hf); obtain ⟨hc, hf⟩ := bcell kk)
    | (go_at_call 45; refine (timerRightH_twelve _ _ _ _ _ _ _ _ _ _ _ _ _ _ _ _).mono ?_; rintro e w1 ⟨rfl, hb⟩; replace kk := kk.trans (hb.mono kk.size); clear hb; (try clear hc hf); obtain ⟨hc, hf⟩ := bcell kk)
    | (go_at_call 46; refine (callRightH_twelve _ _ _ _ _ _ _ _ _ _ _ _ _ _ _ _).mono ?_; rintro e w1 ⟨rfl, hb⟩; replace kk := kk.trans (hb.mono kk.size); clear hb; (try clear hc hf); obtain ⟨hc, hf⟩ := bcell kk))
  go_ret
  exact ⟨ret_bool' (by simp []), k0.trans (kk.mono k0.size)⟩

theorem imHandOk_any (a b c : Int) (h : Hd) (w : World) :
    Calls Try.prog 22 #[.agg #[.int .i64 a, .int .i64 b, .int .i64 c], hdV h] w fun e w' => e = .returned (.bool (handB a b c h)) ∧ Below w.heap.size w w' :=
  imHandOk_twelve a b c h.pos h.call.code h.call.a h.call.b h.call.c h.tim h.whe h.had h.cnt h.beg h.rep h.out w

end Go.Proofs.Ytcfkginbkammoaa

/-
  Is there such a worker, in the program?
-/
namespace Go.Proofs.Ytcfkginbkammoaa
open Go.RowKit
set_option linter.unusedVariables false

set_option maxHeartbeats 400000 in
theorem hasWorker_any (a b c n : Int) (w : World) :
    Calls Try.prog 23 #[.agg #[.int .i64 a, .int .i64 b, .int .i64 c], .int .i64 n] w fun e w' => e = .returned (.bool (workB a b c n)) ∧ Below w.heap.size w w' := by
  cases h1 : planB a b c
  · rw [workB_no h1]
    go_enter Try.func23, Try.ntmps23
    go_wp2_with (go_at_call 43; refine (right_any _ _ _ _).mono ?_; rintro e w1 ⟨rfl, hb⟩)
    go_ret
    exact ⟨rfl, ((Below.refl _ _).alloc (Nat.le_refl _) _).trans (hb.mono (by simp))⟩
  · obtain ⟨b1, ⟨b2, b3⟩, b4⟩ := planB_iff.1 h1
    cases h2 : inB n 0 (b - 1)
    · rw [workB_out h2]
      go_enter Try.func23, Try.ntmps23
      go_wp2_with (first
        | (go_at_call 43; refine (right_any _ _ _ _).mono ?_; rintro e w1 ⟨rfl, hb⟩; obtain ⟨hc, hf⟩ := bcell hb)
        | (go_at_call 47; refine (within_any _ _ _ _).mono ?_; rintro e w' ⟨rfl, rfl⟩))
      go_ret
      exact ⟨rfl, ((Below.refl _ _).alloc (Nat.le_refl _) _).trans (hb.mono (by simp))⟩
    · rw [workB_yes h1 h2]
      go_enter Try.func23, Try.ntmps23
      go_wp2_with (first
        | (go_at_call 43; refine (right_any _ _ _ _).mono ?_; rintro e w1 ⟨rfl, hb⟩; obtain ⟨hc, hf⟩ := bcell hb)
        | (go_at_call 47; refine (within_any _ _ _ _).mono ?_; rintro e w' ⟨rfl, rfl⟩))
      go_ret
      exact ⟨rfl, ((Below.refl _ _).alloc (Nat.le_refl _) _).trans (hb.mono (by simp))⟩

end Go.Proofs.Ytcfkginbkammoaa
