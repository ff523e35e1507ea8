/-
  Timers (spec, chapter 3): is a timer right?
-/
import Derived.Test.YtcfkginbkammoaaL02
namespace Go.Proofs.Ytcfkginbkammoaa
open Go.RowKit
set_option linter.unusedVariables false

/-- the place that its status wants -/
def placeB (a b c : Int) (t : Tm) : Bool := if inHeapB t.st then procB a b c t.pl else (t.pl == -1 || (t.st == 2 && procB a b c t.pl))
/-- and the next time -/
def nextB (t : Tm) : Bool := if t.st = 3 then decide (t.nx < t.wh) else if t.st = 4 then decide (t.wh ≤ t.nx) else true
/-- is a timer right? -/
def timerB (a b c : Int) (t : Tm) : Bool := planB a b c && (inB t.st 0 7 && (inB t.wh 0 1000000000 && (inB t.nx 0 1000000000 && (inB t.pe 0 1000000000 && (inB t.ge 0 100000 && (inB t.ki 0 1 && (inB t.ma 0 1000000001 && (placeB a b c t && nextB t))))))))

set_option maxRecDepth 100000 in
set_option maxHeartbeats 4000000 in
theorem spTimerOk_eight (a b c st wh nx pe pl ge ki ma : Int) (w : World) :
    Calls Try.prog 31 #[.agg #[.int .i64 a, .int .i64 b, .int .i64 c], .agg #[.int .i64 st, .int .i64 wh, .int .i64 nx, .int .i64 pe, .int .i64 pl, .int .i64 ge, .int .i64 ki, .int .i64 ma]] w fun e w' => e = .returned (.bool (timerB a b c ⟨st, wh, nx, pe, pl, ge, ki, ma⟩)) ∧ Below w.heap.size w w' := by
  have k0 := ((Below.refl w.heap.size w).alloc (Nat.le_refl _) (.cells #[.int .i64 a, .int .i64 b, .int .i64 c] 34)).alloc (by simp) (.cells #[.int .i64 st, .int .i64 wh, .int .i64 nx, .int .i64 pe, .int .i64 pl, .int .i64 ge, .int .i64 ki, .int .i64 ma] 70)
  cases h1 : planB a b c
  · rw [show timerB a b c ⟨st, wh, nx, pe, pl, ge, ki, ma⟩ = false by simp [timerB, placeB, nextB, h1]]
    go_enter Try.func31, Try.ntmps31
    go_wp2_with (first
        | (go_at_call 28; refine (spPlanOk_any _ _ _ _).mono ?_; rintro e w1 ⟨rfl, hb⟩; obtain ⟨hc, hf⟩ := bcell hb)
        | (go_at_call 29; refine (l1In_any _ _ _ _).mono ?_; rintro e w' ⟨rfl, rfl⟩)
        | (go_at_call 35; refine (l1Time_any _ _).mono ?_; rintro e w' ⟨rfl, rfl⟩)
        | (go_at_call 52; refine (spInHeap_any _ _).mono ?_; rintro e w' ⟨rfl, rfl⟩)
        | (go_at_call 53; refine (l1Proc_any _ _ _ _ _).mono ?_; rintro e w2 ⟨rfl, hb2⟩; have hb3 := hb.trans (hb2.mono hb.size); obtain ⟨hc2, hf2⟩ := bcell hb3))
    go_ret
    exact ⟨ret_bool' (by simp), k0.trans (hb.mono k0.size)⟩
  cases h2 : inB st 0 7
  · rw [show timerB a b c ⟨st, wh, nx, pe, pl, ge, ki, ma⟩ = false by simp [timerB, placeB, nextB, h1, h2]]
    go_enter Try.func31, Try.ntmps31
    go_wp2_with (first
        | (go_at_call 28; refine (spPlanOk_any _ _ _ _).mono ?_; rintro e w1 ⟨rfl, hb⟩; obtain ⟨hc, hf⟩ := bcell hb)
        | (go_at_call 29; refine (l1In_any _ _ _ _).mono ?_; rintro e w' ⟨rfl, rfl⟩)
        | (go_at_call 35; refine (l1Time_any _ _).mono ?_; rintro e w' ⟨rfl, rfl⟩)
        | (go_at_call 52; refine (spInHeap_any _ _).mono ?_; rintro e w' ⟨rfl, rfl⟩)
        | (go_at_call 53; refine (l1Proc_any _ _ _ _ _).mono ?_; rintro e w2 ⟨rfl, hb2⟩; have hb3 := hb.trans (hb2.mono hb.size); obtain ⟨hc2, hf2⟩ := bcell hb3))
    go_ret
    exact ⟨ret_bool' (by simp), k0.trans (hb.mono k0.size)⟩
  cases h3 : inB wh 0 1000000000
  · rw [show timerB a b c ⟨st, wh, nx, pe, pl, ge, ki, ma⟩ = false by simp [timerB, placeB, nextB, h1, h2, h3]]
    go_enter Try.func31, Try.ntmps31
    go_wp2_with (first
        | (go_at_call 28; refine (spPlanOk_any _ _ _ _).mono ?_; rintro e w1 ⟨rfl, hb⟩; obtain ⟨hc, hf⟩ := bcell hb)
        | (go_at_call 29; refine (l1In_any _ _ _ _).mono ?_; rintro e w' ⟨rfl, rfl⟩)
        | (go_at_call 35; refine (l1Time_any _ _).mono ?_; rintro e w' ⟨rfl, rfl⟩)
        | (go_at_call 52; refine (spInHeap_any _ _).mono ?_; rintro e w' ⟨rfl, rfl⟩)
        | (go_at_call 53; refine (l1Proc_any _ _ _ _ _).mono ?_; rintro e w2 ⟨rfl, hb2⟩; have hb3 := hb.trans (hb2.mono hb.size); obtain ⟨hc2, hf2⟩ := bcell hb3))
    go_ret
    exact ⟨ret_bool' (by simp), k0.trans (hb.mono k0.size)⟩
  cases h4 : inB nx 0 1000000000
  · rw [show timerB a b c ⟨st, wh, nx, pe, pl, ge, ki, ma⟩ = false by simp [timerB, placeB, nextB, h1, h2, h3, h4]]
    go_enter Try.func31, Try.ntmps31
    go_wp2_with (first
        | (go_at_call 28; refine (spPlanOk_any _ _ _ _).mono ?_; rintro e w1 ⟨rfl, hb⟩; obtain ⟨hc, hf⟩ := bcell hb)
        | (go_at_call 29; refine (l1In_any _ _ _ _).mono ?_; rintro e w' ⟨rfl, rfl⟩)
        | (go_at_call 35; refine (l1Time_any _ _).mono ?_; rintro e w' ⟨rfl, rfl⟩)
        | (go_at_call 52; refine (spInHeap_any _ _).mono ?_; rintro e w' ⟨rfl, rfl⟩)
        | (go_at_call 53; refine (l1Proc_any _ _ _ _ _).mono ?_; rintro e w2 ⟨rfl, hb2⟩; have hb3 := hb.trans (hb2.mono hb.size); obtain ⟨hc2, hf2⟩ := bcell hb3))
    go_ret
    exact ⟨ret_bool' (by simp), k0.trans (hb.mono k0.size)⟩
  cases h5 : inB pe 0 1000000000
  · rw [show timerB a b c ⟨st, wh, nx, pe, pl, ge, ki, ma⟩ = false by simp [timerB, placeB, nextB, h1, h2, h3, h4, h5]]
    go_enter Try.func31, Try.ntmps31
    go_wp2_with (first
        | (go_at_call 28; refine (spPlanOk_any _ _ _ _).mono ?_; rintro e w1 ⟨rfl, hb⟩; obtain ⟨hc, hf⟩ := bcell hb)
        | (go_at_call 29; refine (l1In_any _ _ _ _).mono ?_; rintro e w' ⟨rfl, rfl⟩)
        | (go_at_call 35; refine (l1Time_any _ _).mono ?_; rintro e w' ⟨rfl, rfl⟩)
        | (go_at_call 52; refine (spInHeap_any _ _).mono ?_; rintro e w' ⟨rfl, rfl⟩)
        | (go_at_call 53; refine (l1Proc_any _ _ _ _ _).mono ?_; rintro e w2 ⟨rfl, hb2⟩; have hb3 := hb.trans (hb2.mono hb.size); obtain ⟨hc2, hf2⟩ := bcell hb3))
    go_ret
    exact ⟨ret_bool' (by simp), k0.trans (hb.mono k0.size)⟩
  cases h6 : inB ge 0 100000
  · rw [show timerB a b c ⟨st, wh, nx, pe, pl, ge, ki, ma⟩ = false by simp [timerB, placeB, nextB, h1, h2, h3, h4, h5, h6]]
    go_enter Try.func31, Try.ntmps31
    go_wp2_with (first
        | (go_at_call 28; refine (spPlanOk_any _ _ _ _).mono ?_; rintro e w1 ⟨rfl, hb⟩; obtain ⟨hc, hf⟩ := bcell hb)
        | (go_at_call 29; refine (l1In_any _ _ _ _).mono ?_; rintro e w' ⟨rfl, rfl⟩)
        | (go_at_call 35; refine (l1Time_any _ _).mono ?_; rintro e w' ⟨rfl, rfl⟩)
        | (go_at_call 52; refine (spInHeap_any _ _).mono ?_; rintro e w' ⟨rfl, rfl⟩)
        | (go_at_call 53; refine (l1Proc_any _ _ _ _ _).mono ?_; rintro e w2 ⟨rfl, hb2⟩; have hb3 := hb.trans (hb2.mono hb.size); obtain ⟨hc2, hf2⟩ := bcell hb3))
    go_ret
    exact ⟨ret_bool' (by simp), k0.trans (hb.mono k0.size)⟩
  cases h7 : inB ki 0 1
  · rw [show timerB a b c ⟨st, wh, nx, pe, pl, ge, ki, ma⟩ = false by simp [timerB, placeB, nextB, h1, h2, h3, h4, h5, h6, h7]]
    go_enter Try.func31, Try.ntmps31
    go_wp2_with (first
        | (go_at_call 28; refine (spPlanOk_any _ _ _ _).mono ?_; rintro e w1 ⟨rfl, hb⟩; obtain ⟨hc, hf⟩ := bcell hb)
        | (go_at_call 29; refine (l1In_any _ _ _ _).mono ?_; rintro e w' ⟨rfl, rfl⟩)
        | (go_at_call 35; refine (l1Time_any _ _).mono ?_; rintro e w' ⟨rfl, rfl⟩)
        | (go_at_call 52; refine (spInHeap_any _ _).mono ?_; rintro e w' ⟨rfl, rfl⟩)
        | (go_at_call 53; refine (l1Proc_any _ _ _ _ _).mono ?_; rintro e w2 ⟨rfl, hb2⟩; have hb3 := hb.trans (hb2.mono hb.size); obtain ⟨hc2, hf2⟩ := bcell hb3))
    go_ret
    exact ⟨ret_bool' (by simp), k0.trans (hb.mono k0.size)⟩
  cases h8 : inB ma 0 1000000001
  · rw [show timerB a b c ⟨st, wh, nx, pe, pl, ge, ki, ma⟩ = false by simp [timerB, placeB, nextB, h1, h2, h3, h4, h5, h6, h7, h8]]
    go_enter Try.func31, Try.ntmps31
    go_wp2_with (first
        | (go_at_call 28; refine (spPlanOk_any _ _ _ _).mono ?_; rintro e w1 ⟨rfl, hb⟩; obtain ⟨hc, hf⟩ := bcell hb)
        | (go_at_call 29; refine (l1In_any _ _ _ _).mono ?_; rintro e w' ⟨rfl, rfl⟩)
        | (go_at_call 35; refine (l1Time_any _ _).mono ?_; rintro e w' ⟨rfl, rfl⟩)
        | (go_at_call 52; refine (spInHeap_any _ _).mono ?_; rintro e w' ⟨rfl, rfl⟩)
        | (go_at_call 53; refine (l1Proc_any _ _ _ _ _).mono ?_; rintro e w2 ⟨rfl, hb2⟩; have hb3 := hb.trans (hb2.mono hb.size); obtain ⟨hc2, hf2⟩ := bcell hb3))
    go_ret
    exact ⟨ret_bool' (by simp), k0.trans (hb.mono k0.size)⟩
  cases h9 : inHeapB st
  · have n3 : ¬ st = 3 := by intro e; rw [e] at h9; exact absurd h9 (by decide)
    have n4 : ¬ st = 4 := by intro e; rw [e] at h9; exact absurd h9 (by decide)
    have m3 : (st == 3) = false := by simpa using n3
    have m4 : (st == 4) = false := by simpa using n4
    by_cases hp : pl = -1
    · subst hp
      rw [show timerB a b c ⟨st, wh, nx, pe, -1, ge, ki, ma⟩ = true by simp [timerB, placeB, nextB, h1, h2, h3, h4, h5, h6, h7, h8, h9, n3, n4]]
      go_enter Try.func31, Try.ntmps31
      go_wp2_with (first
          | (go_at_call 28; refine (spPlanOk_any _ _ _ _).mono ?_; rintro e w1 ⟨rfl, hb⟩; obtain ⟨hc, hf⟩ := bcell hb)
          | (go_at_call 29; refine (l1In_any _ _ _ _).mono ?_; rintro e w' ⟨rfl, rfl⟩)
          | (go_at_call 35; refine (l1Time_any _ _).mono ?_; rintro e w' ⟨rfl, rfl⟩)
          | (go_at_call 52; refine (spInHeap_any _ _).mono ?_; rintro e w' ⟨rfl, rfl⟩)
          | (go_at_call 53; refine (l1Proc_any _ _ _ _ _).mono ?_; rintro e w2 ⟨rfl, hb2⟩; have hb3 := hb.trans (hb2.mono hb.size); obtain ⟨hc2, hf2⟩ := bcell hb3))
      go_ret
      exact ⟨ret_bool' (by simp), k0.trans (hb.mono k0.size)⟩
    · have mp : (pl == -1) = false := by simpa using hp
      have mp2 : (pl != -1) = true := by simpa using hp
      by_cases hs : st = 2
      · subst hs
        cases h10 : procB a b c pl
        · rw [show timerB a b c ⟨2, wh, nx, pe, pl, ge, ki, ma⟩ = false by simp [timerB, placeB, nextB, h1, h2, h3, h4, h5, h6, h7, h8, h9, hp, h10]]
          clear hp
          go_enter Try.func31, Try.ntmps31
          go_wp2_with (first
              | (go_at_call 28; refine (spPlanOk_any _ _ _ _).mono ?_; rintro e w1 ⟨rfl, hb⟩; obtain ⟨hc, hf⟩ := bcell hb)
              | (go_at_call 29; refine (l1In_any _ _ _ _).mono ?_; rintro e w' ⟨rfl, rfl⟩)
              | (go_at_call 35; refine (l1Time_any _ _).mono ?_; rintro e w' ⟨rfl, rfl⟩)
              | (go_at_call 52; refine (spInHeap_any _ _).mono ?_; rintro e w' ⟨rfl, rfl⟩)
              | (go_at_call 53; refine (l1Proc_any _ _ _ _ _).mono ?_; rintro e w2 ⟨rfl, hb2⟩; have hb3 := hb.trans (hb2.mono hb.size); obtain ⟨hc2, hf2⟩ := bcell hb3))
          go_ret
          exact ⟨ret_bool' (by simp), k0.trans (hb3.mono k0.size)⟩
        · rw [show timerB a b c ⟨2, wh, nx, pe, pl, ge, ki, ma⟩ = true by simp [timerB, placeB, nextB, h1, h2, h3, h4, h5, h6, h7, h8, h9, h10]]
          clear hp
          go_enter Try.func31, Try.ntmps31
          go_wp2_with (first
              | (go_at_call 28; refine (spPlanOk_any _ _ _ _).mono ?_; rintro e w1 ⟨rfl, hb⟩; obtain ⟨hc, hf⟩ := bcell hb)
              | (go_at_call 29; refine (l1In_any _ _ _ _).mono ?_; rintro e w' ⟨rfl, rfl⟩)
              | (go_at_call 35; refine (l1Time_any _ _).mono ?_; rintro e w' ⟨rfl, rfl⟩)
              | (go_at_call 52; refine (spInHeap_any _ _).mono ?_; rintro e w' ⟨rfl, rfl⟩)
              | (go_at_call 53; refine (l1Proc_any _ _ _ _ _).mono ?_; rintro e w2 ⟨rfl, hb2⟩; have hb3 := hb.trans (hb2.mono hb.size); obtain ⟨hc2, hf2⟩ := bcell hb3))
          go_ret
          exact ⟨ret_bool' (by simp), k0.trans (hb3.mono k0.size)⟩
      · have ms : (st == 2) = false := by simpa using hs
        have ms2 : (st != 2) = true := by simpa using hs
        rw [show timerB a b c ⟨st, wh, nx, pe, pl, ge, ki, ma⟩ = false by simp [timerB, placeB, nextB, h1, h2, h3, h4, h5, h6, h7, h8, h9, hp, hs]]
        clear hs hp
        go_enter Try.func31, Try.ntmps31
        go_wp2_with (first
            | (go_at_call 28; refine (spPlanOk_any _ _ _ _).mono ?_; rintro e w1 ⟨rfl, hb⟩; obtain ⟨hc, hf⟩ := bcell hb)
            | (go_at_call 29; refine (l1In_any _ _ _ _).mono ?_; rintro e w' ⟨rfl, rfl⟩)
            | (go_at_call 35; refine (l1Time_any _ _).mono ?_; rintro e w' ⟨rfl, rfl⟩)
            | (go_at_call 52; refine (spInHeap_any _ _).mono ?_; rintro e w' ⟨rfl, rfl⟩)
            | (go_at_call 53; refine (l1Proc_any _ _ _ _ _).mono ?_; rintro e w2 ⟨rfl, hb2⟩; have hb3 := hb.trans (hb2.mono hb.size); obtain ⟨hc2, hf2⟩ := bcell hb3))
        go_ret
        exact ⟨ret_bool' (by simp), k0.trans (hb.mono k0.size)⟩
  · cases h10 : procB a b c pl
    · rw [show timerB a b c ⟨st, wh, nx, pe, pl, ge, ki, ma⟩ = false by simp [timerB, placeB, nextB, h1, h2, h3, h4, h5, h6, h7, h8, h9, h10]]
      go_enter Try.func31, Try.ntmps31
      go_wp2_with (first
          | (go_at_call 28; refine (spPlanOk_any _ _ _ _).mono ?_; rintro e w1 ⟨rfl, hb⟩; obtain ⟨hc, hf⟩ := bcell hb)
          | (go_at_call 29; refine (l1In_any _ _ _ _).mono ?_; rintro e w' ⟨rfl, rfl⟩)
          | (go_at_call 35; refine (l1Time_any _ _).mono ?_; rintro e w' ⟨rfl, rfl⟩)
          | (go_at_call 52; refine (spInHeap_any _ _).mono ?_; rintro e w' ⟨rfl, rfl⟩)
          | (go_at_call 53; refine (l1Proc_any _ _ _ _ _).mono ?_; rintro e w2 ⟨rfl, hb2⟩; have hb3 := hb.trans (hb2.mono hb.size); obtain ⟨hc2, hf2⟩ := bcell hb3))
      go_ret
      exact ⟨ret_bool' (by simp), k0.trans (hb3.mono k0.size)⟩
    · by_cases hs : st = 3
      · subst hs
        by_cases hl : nx < wh
        · have hd : decide (wh ≤ nx) = false := by simp; omega
          rw [show timerB a b c ⟨3, wh, nx, pe, pl, ge, ki, ma⟩ = true by simp [timerB, placeB, nextB, h1, h2, h3, h4, h5, h6, h7, h8, h9, h10, hl]]
          go_enter Try.func31, Try.ntmps31
          go_wp2_with (first
              | (go_at_call 28; refine (spPlanOk_any _ _ _ _).mono ?_; rintro e w1 ⟨rfl, hb⟩; obtain ⟨hc, hf⟩ := bcell hb)
              | (go_at_call 29; refine (l1In_any _ _ _ _).mono ?_; rintro e w' ⟨rfl, rfl⟩)
              | (go_at_call 35; refine (l1Time_any _ _).mono ?_; rintro e w' ⟨rfl, rfl⟩)
              | (go_at_call 52; refine (spInHeap_any _ _).mono ?_; rintro e w' ⟨rfl, rfl⟩)
              | (go_at_call 53; refine (l1Proc_any _ _ _ _ _).mono ?_; rintro e w2 ⟨rfl, hb2⟩; have hb3 := hb.trans (hb2.mono hb.size); obtain ⟨hc2, hf2⟩ := bcell hb3))
          go_ret
          exact ⟨ret_bool' (by simp), k0.trans (hb3.mono k0.size)⟩
        · have hd : decide (wh ≤ nx) = true := by simp; omega
          rw [show timerB a b c ⟨3, wh, nx, pe, pl, ge, ki, ma⟩ = false by simp [timerB, placeB, nextB, h1, h2, h3, h4, h5, h6, h7, h8, h9, h10, hl]]
          go_enter Try.func31, Try.ntmps31
          go_wp2_with (first
              | (go_at_call 28; refine (spPlanOk_any _ _ _ _).mono ?_; rintro e w1 ⟨rfl, hb⟩; obtain ⟨hc, hf⟩ := bcell hb)
              | (go_at_call 29; refine (l1In_any _ _ _ _).mono ?_; rintro e w' ⟨rfl, rfl⟩)
              | (go_at_call 35; refine (l1Time_any _ _).mono ?_; rintro e w' ⟨rfl, rfl⟩)
              | (go_at_call 52; refine (spInHeap_any _ _).mono ?_; rintro e w' ⟨rfl, rfl⟩)
              | (go_at_call 53; refine (l1Proc_any _ _ _ _ _).mono ?_; rintro e w2 ⟨rfl, hb2⟩; have hb3 := hb.trans (hb2.mono hb.size); obtain ⟨hc2, hf2⟩ := bcell hb3))
          go_ret
          exact ⟨ret_bool' (by simp), k0.trans (hb3.mono k0.size)⟩
      · have m3 : (st == 3) = false := by simpa using hs
        by_cases hs4 : st = 4
        · subst hs4
          by_cases hl : nx < wh
          · have hd : decide (nx < wh) = true := by simpa using hl
            rw [show timerB a b c ⟨4, wh, nx, pe, pl, ge, ki, ma⟩ = false by simp [timerB, placeB, nextB, h1, h2, h3, h4, h5, h6, h7, h8, h9, h10, hl]]
            go_enter Try.func31, Try.ntmps31
            go_wp2_with (first
                | (go_at_call 28; refine (spPlanOk_any _ _ _ _).mono ?_; rintro e w1 ⟨rfl, hb⟩; obtain ⟨hc, hf⟩ := bcell hb)
                | (go_at_call 29; refine (l1In_any _ _ _ _).mono ?_; rintro e w' ⟨rfl, rfl⟩)
                | (go_at_call 35; refine (l1Time_any _ _).mono ?_; rintro e w' ⟨rfl, rfl⟩)
                | (go_at_call 52; refine (spInHeap_any _ _).mono ?_; rintro e w' ⟨rfl, rfl⟩)
                | (go_at_call 53; refine (l1Proc_any _ _ _ _ _).mono ?_; rintro e w2 ⟨rfl, hb2⟩; have hb3 := hb.trans (hb2.mono hb.size); obtain ⟨hc2, hf2⟩ := bcell hb3))
            go_ret
            exact ⟨ret_bool' (by simp), k0.trans (hb3.mono k0.size)⟩
          · have hd : decide (nx < wh) = false := by simpa using hl
            rw [show timerB a b c ⟨4, wh, nx, pe, pl, ge, ki, ma⟩ = true by simp [timerB, placeB, nextB, h1, h2, h3, h4, h5, h6, h7, h8, h9, h10, Int.not_lt.1 hl]]
            go_enter Try.func31, Try.ntmps31
            go_wp2_with (first
                | (go_at_call 28; refine (spPlanOk_any _ _ _ _).mono ?_; rintro e w1 ⟨rfl, hb⟩; obtain ⟨hc, hf⟩ := bcell hb)
                | (go_at_call 29; refine (l1In_any _ _ _ _).mono ?_; rintro e w' ⟨rfl, rfl⟩)
                | (go_at_call 35; refine (l1Time_any _ _).mono ?_; rintro e w' ⟨rfl, rfl⟩)
                | (go_at_call 52; refine (spInHeap_any _ _).mono ?_; rintro e w' ⟨rfl, rfl⟩)
                | (go_at_call 53; refine (l1Proc_any _ _ _ _ _).mono ?_; rintro e w2 ⟨rfl, hb2⟩; have hb3 := hb.trans (hb2.mono hb.size); obtain ⟨hc2, hf2⟩ := bcell hb3))
            go_ret
            exact ⟨ret_bool' (by simp), k0.trans (hb3.mono k0.size)⟩
        · have m4 : (st == 4) = false := by simpa using hs4
          rw [show timerB a b c ⟨st, wh, nx, pe, pl, ge, ki, ma⟩ = true by simp [timerB, placeB, nextB, h1, h2, h3, h4, h5, h6, h7, h8, h9, h10, hs, hs4]]
          clear hs hs4
          go_enter Try.func31, Try.ntmps31
          go_wp2_with (first
              | (go_at_call 28; refine (spPlanOk_any _ _ _ _).mono ?_; rintro e w1 ⟨rfl, hb⟩; obtain ⟨hc, hf⟩ := bcell hb)
              | (go_at_call 29; refine (l1In_any _ _ _ _).mono ?_; rintro e w' ⟨rfl, rfl⟩)
              | (go_at_call 35; refine (l1Time_any _ _).mono ?_; rintro e w' ⟨rfl, rfl⟩)
              | (go_at_call 52; refine (spInHeap_any _ _).mono ?_; rintro e w' ⟨rfl, rfl⟩)
              | (go_at_call 53; refine (l1Proc_any _ _ _ _ _).mono ?_; rintro e w2 ⟨rfl, hb2⟩; have hb3 := hb.trans (hb2.mono hb.size); obtain ⟨hc2, hf2⟩ := bcell hb3))
          go_ret
          exact ⟨ret_bool' (by simp), k0.trans (hb3.mono k0.size)⟩

end Go.Proofs.Ytcfkginbkammoaa
