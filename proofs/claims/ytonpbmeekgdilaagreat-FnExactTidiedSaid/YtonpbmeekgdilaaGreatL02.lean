/-
  Timers (spec, chapter 3): is a timer right?
-/
import Derived.Test.YtonpbmeekgdilaaGreatL01
import Derived.Test.YtonpbmeekgdilaaGreatL00
import Derived.Lib.SmallJoins
import Derived.DataShut
import Derived.Laws.MakeOwn
namespace Go.Proofs.YtonpbmeekgdilaaGreat
open Go.RowKit
set_option linter.unusedVariables false

/-- the place that its status wants -/
def placeB (a b c : Int) (t : Tm) : Bool := if inHeapB t.st then procB a b c t.pl else (t.pl == -1 || (t.st == 2 && procB a b c t.pl))
/-- and the next time -/
def nextB (t : Tm) : Bool := if t.st = 3 then decide (t.nx < t.wh) else if t.st = 4 then decide (t.wh ≤ t.nx) else true
/-- is a timer right? -/
def timerB (a b c : Int) (t : Tm) : Bool := planB a b c && (inB t.st 0 7 && (inB t.wh 0 1000000000 && (inB t.nx 0 1000000000 && (inB t.pe 0 1000000000 && (inB t.ge 0 100000 && (inB t.ki 0 1 && (inB t.ma 0 1000000001 && (placeB a b c t && nextB t))))))))

set_option maxRecDepth 100000 in
set_option maxHeartbeats 4000000 in
theorem spTimerOk_eight (a b c st wh nx pe pl ge ki ma : Int) (w : World) :
    Calls Tryz.prog 46 #[.agg #[.int .i64 a, .int .i64 b, .int .i64 c], .agg #[.int .i64 st, .int .i64 wh, .int .i64 nx, .int .i64 pe, .int .i64 pl, .int .i64 ge, .int .i64 ki, .int .i64 ma]] w fun e w' => e = .returned (.bool (timerB a b c ⟨st, wh, nx, pe, pl, ge, ki, ma⟩)) ∧ Below w.heap.size w w' := by
  have k0 := ((Below.refl w.heap.size w).alloc (Nat.le_refl _) (.cells #[.int .i64 a, .int .i64 b, .int .i64 c] 35)).alloc (by simp) (.cells #[.int .i64 st, .int .i64 wh, .int .i64 nx, .int .i64 pe, .int .i64 pl, .int .i64 ge, .int .i64 ki, .int .i64 ma] 70)
  cases h1 : planB a b c
  · rw [show timerB a b c ⟨st, wh, nx, pe, pl, ge, ki, ma⟩ = false by simp [timerB, placeB, nextB, h1]]
    go_enter Tryz.func46, Tryz.ntmps46
    go_wp2_with (first
        | (go_at_call 43; refine (spPlanOk_any _ _ _ _).mono ?_; rintro e w1 ⟨rfl, hb⟩; obtain ⟨hc, hf⟩ := bcell hb)
        | (go_at_call 44; refine (l1In_any _ _ _ _).mono ?_; rintro e w' ⟨rfl, rfl⟩)
        | (go_at_call 74; refine (l1Time_any _ _).mono ?_; rintro e w' ⟨rfl, rfl⟩)
        | (go_at_call 75; refine (spInHeap_any _ _).mono ?_; rintro e w' ⟨rfl, rfl⟩)
        | (go_at_call 22; refine (l1Proc_any _ _ _ _ _).mono ?_; rintro e w2 ⟨rfl, hb2⟩; have hb3 := hb.trans (hb2.mono hb.size); obtain ⟨hc2, hf2⟩ := bcell hb3))
    go_ret
    exact ⟨ret_bool' (by simp), k0.trans (hb.mono k0.size)⟩
  cases h2 : inB st 0 7
  · rw [show timerB a b c ⟨st, wh, nx, pe, pl, ge, ki, ma⟩ = false by simp [timerB, placeB, nextB, h1, h2]]
    go_enter Tryz.func46, Tryz.ntmps46
    go_wp2_with (first
        | (go_at_call 43; refine (spPlanOk_any _ _ _ _).mono ?_; rintro e w1 ⟨rfl, hb⟩; obtain ⟨hc, hf⟩ := bcell hb)
        | (go_at_call 44; refine (l1In_any _ _ _ _).mono ?_; rintro e w' ⟨rfl, rfl⟩)
        | (go_at_call 74; refine (l1Time_any _ _).mono ?_; rintro e w' ⟨rfl, rfl⟩)
        | (go_at_call 75; refine (spInHeap_any _ _).mono ?_; rintro e w' ⟨rfl, rfl⟩)
        | (go_at_call 22; refine (l1Proc_any _ _ _ _ _).mono ?_; rintro e w2 ⟨rfl, hb2⟩; have hb3 := hb.trans (hb2.mono hb.size); obtain ⟨hc2, hf2⟩ := bcell hb3))
    go_ret
    exact ⟨ret_bool' (by simp), k0.trans (hb.mono k0.size)⟩
  cases h3 : inB wh 0 1000000000
  · rw [show timerB a b c ⟨st, wh, nx, pe, pl, ge, ki, ma⟩ = false by simp [timerB, placeB, nextB, h1, h2, h3]]
    go_enter Tryz.func46, Tryz.ntmps46
    go_wp2_with (first
        | (go_at_call 43; refine (spPlanOk_any _ _ _ _).mono ?_; rintro e w1 ⟨rfl, hb⟩; obtain ⟨hc, hf⟩ := bcell hb)
        | (go_at_call 44; refine (l1In_any _ _ _ _).mono ?_; rintro e w' ⟨rfl, rfl⟩)
        | (go_at_call 74; refine (l1Time_any _ _).mono ?_; rintro e w' ⟨rfl, rfl⟩)
        | (go_at_call 75; refine (spInHeap_any _ _).mono ?_; rintro e w' ⟨rfl, rfl⟩)
        | (go_at_call 22; refine (l1Proc_any _ _ _ _ _).mono ?_; rintro e w2 ⟨rfl, hb2⟩; have hb3 := hb.trans (hb2.mono hb.size); obtain ⟨hc2, hf2⟩ := bcell hb3))
    go_ret
    exact ⟨ret_bool' (by simp), k0.trans (hb.mono k0.size)⟩
  cases h4 : inB nx 0 1000000000
  · rw [show timerB a b c ⟨st, wh, nx, pe, pl, ge, ki, ma⟩ = false by simp [timerB, placeB, nextB, h1, h2, h3, h4]]
    go_enter Tryz.func46, Tryz.ntmps46
    go_wp2_with (first
        | (go_at_call 43; refine (spPlanOk_any _ _ _ _).mono ?_; rintro e w1 ⟨rfl, hb⟩; obtain ⟨hc, hf⟩ := bcell hb)
        | (go_at_call 44; refine (l1In_any _ _ _ _).mono ?_; rintro e w' ⟨rfl, rfl⟩)
        | (go_at_call 74; refine (l1Time_any _ _).mono ?_; rintro e w' ⟨rfl, rfl⟩)
        | (go_at_call 75; refine (spInHeap_any _ _).mono ?_; rintro e w' ⟨rfl, rfl⟩)
        | (go_at_call 22; refine (l1Proc_any _ _ _ _ _).mono ?_; rintro e w2 ⟨rfl, hb2⟩; have hb3 := hb.trans (hb2.mono hb.size); obtain ⟨hc2, hf2⟩ := bcell hb3))
    go_ret
    exact ⟨ret_bool' (by simp), k0.trans (hb.mono k0.size)⟩
  cases h5 : inB pe 0 1000000000
  · rw [show timerB a b c ⟨st, wh, nx, pe, pl, ge, ki, ma⟩ = false by simp [timerB, placeB, nextB, h1, h2, h3, h4, h5]]
    go_enter Tryz.func46, Tryz.ntmps46
    go_wp2_with (first
        | (go_at_call 43; refine (spPlanOk_any _ _ _ _).mono ?_; rintro e w1 ⟨rfl, hb⟩; obtain ⟨hc, hf⟩ := bcell hb)
        | (go_at_call 44; refine (l1In_any _ _ _ _).mono ?_; rintro e w' ⟨rfl, rfl⟩)
        | (go_at_call 74; refine (l1Time_any _ _).mono ?_; rintro e w' ⟨rfl, rfl⟩)
        | (go_at_call 75; refine (spInHeap_any _ _).mono ?_; rintro e w' ⟨rfl, rfl⟩)
        | (go_at_call 22; refine (l1Proc_any _ _ _ _ _).mono ?_; rintro e w2 ⟨rfl, hb2⟩; have hb3 := hb.trans (hb2.mono hb.size); obtain ⟨hc2, hf2⟩ := bcell hb3))
    go_ret
    exact ⟨ret_bool' (by simp), k0.trans (hb.mono k0.size)⟩
  cases h6 : inB ge 0 100000
  · rw [show timerB a b c ⟨st, wh, nx, pe, pl, ge, ki, ma⟩ = false by simp [timerB, placeB, nextB, h1, h2, h3, h4, h5, h6]]
    go_enter Tryz.func46, Tryz.ntmps46
    go_wp2_with (first
        | (go_at_call 43; refine (spPlanOk_any _ _ _ _).mono ?_; rintro e w1 ⟨rfl, hb⟩; obtain ⟨hc, hf⟩ := bcell hb)
        | (go_at_call 44; refine (l1In_any _ _ _ _).mono ?_; rintro e w' ⟨rfl, rfl⟩)
        | (go_at_call 74; refine (l1Time_any _ _).mono ?_; rintro e w' ⟨rfl, rfl⟩)
        | (go_at_call 75; refine (spInHeap_any _ _).mono ?_; rintro e w' ⟨rfl, rfl⟩)
        | (go_at_call 22; refine (l1Proc_any _ _ _ _ _).mono ?_; rintro e w2 ⟨rfl, hb2⟩; have hb3 := hb.trans (hb2.mono hb.size); obtain ⟨hc2, hf2⟩ := bcell hb3))
    go_ret
    exact ⟨ret_bool' (by simp), k0.trans (hb.mono k0.size)⟩
  cases h7 : inB ki 0 1
  · rw [show timerB a b c ⟨st, wh, nx, pe, pl, ge, ki, ma⟩ = false by simp [timerB, placeB, nextB, h1, h2, h3, h4, h5, h6, h7]]
    go_enter Tryz.func46, Tryz.ntmps46
    go_wp2_with (first
        | (go_at_call 43; refine (spPlanOk_any _ _ _ _).mono ?_; rintro e w1 ⟨rfl, hb⟩; obtain ⟨hc, hf⟩ := bcell hb)
        | (go_at_call 44; refine (l1In_any _ _ _ _).mono ?_; rintro e w' ⟨rfl, rfl⟩)
        | (go_at_call 74; refine (l1Time_any _ _).mono ?_; rintro e w' ⟨rfl, rfl⟩)
        | (go_at_call 75; refine (spInHeap_any _ _).mono ?_; rintro e w' ⟨rfl, rfl⟩)
        | (go_at_call 22; refine (l1Proc_any _ _ _ _ _).mono ?_; rintro e w2 ⟨rfl, hb2⟩; have hb3 := hb.trans (hb2.mono hb.size); obtain ⟨hc2, hf2⟩ := bcell hb3))
    go_ret
    exact ⟨ret_bool' (by simp), k0.trans (hb.mono k0.size)⟩
  cases h8 : inB ma 0 1000000001
  · rw [show timerB a b c ⟨st, wh, nx, pe, pl, ge, ki, ma⟩ = false by simp [timerB, placeB, nextB, h1, h2, h3, h4, h5, h6, h7, h8]]
    go_enter Tryz.func46, Tryz.ntmps46
    go_wp2_with (first
        | (go_at_call 43; refine (spPlanOk_any _ _ _ _).mono ?_; rintro e w1 ⟨rfl, hb⟩; obtain ⟨hc, hf⟩ := bcell hb)
        | (go_at_call 44; refine (l1In_any _ _ _ _).mono ?_; rintro e w' ⟨rfl, rfl⟩)
        | (go_at_call 74; refine (l1Time_any _ _).mono ?_; rintro e w' ⟨rfl, rfl⟩)
        | (go_at_call 75; refine (spInHeap_any _ _).mono ?_; rintro e w' ⟨rfl, rfl⟩)
        | (go_at_call 22; refine (l1Proc_any _ _ _ _ _).mono ?_; rintro e w2 ⟨rfl, hb2⟩; have hb3 := hb.trans (hb2.mono hb.size); obtain ⟨hc2, hf2⟩ := bcell hb3))
    go_ret
    exact ⟨ret_bool' (by simp), k0.trans (hb.mono k0.size)⟩
  cases h9 : inHeapB st
  · have n3 : ¬ st = 3 := by intro e; rw [e] at h9; exact absurd h9 (by decide)
    have n4 : ¬ st = 4 := by intro e; rw [e] at h9; exact absurd h9 (by decide)
    have m3 : (st == 3) = false := by simpa using n3
    have m4 : (st == 4) = false := by simpa using n4
    by_cases hp : pl = -1
    · subst hp
      rw [show timerB a b c ⟨st, wh, nx, pe, -1, ge, ki, ma⟩ = true by simp [timerB, placeB, nextB, h1, h2, h3, h4, h5, h6, h7, h8, h9, n3, n4]]
      go_enter Tryz.func46, Tryz.ntmps46
      go_wp2_with (first
          | (go_at_call 43; refine (spPlanOk_any _ _ _ _).mono ?_; rintro e w1 ⟨rfl, hb⟩; obtain ⟨hc, hf⟩ := bcell hb)
          | (go_at_call 44; refine (l1In_any _ _ _ _).mono ?_; rintro e w' ⟨rfl, rfl⟩)
          | (go_at_call 74; refine (l1Time_any _ _).mono ?_; rintro e w' ⟨rfl, rfl⟩)
          | (go_at_call 75; refine (spInHeap_any _ _).mono ?_; rintro e w' ⟨rfl, rfl⟩)
          | (go_at_call 22; refine (l1Proc_any _ _ _ _ _).mono ?_; rintro e w2 ⟨rfl, hb2⟩; have hb3 := hb.trans (hb2.mono hb.size); obtain ⟨hc2, hf2⟩ := bcell hb3))
      go_ret
      exact ⟨ret_bool' (by simp), k0.trans (hb.mono k0.size)⟩
    · have mp : (pl == -1) = false := by simpa using hp
      have mp2 : (pl != -1) = true := by simpa using hp
      by_cases hs : st = 2
      · subst hs
        cases h10 : procB a b c pl
        · rw [show timerB a b c ⟨2, wh, nx, pe, pl, ge, ki, ma⟩ = false by simp [timerB, placeB, nextB, h1, h2, h3, h4, h5, h6, h7, h8, h9, hp, h10]]
          clear hp
          go_enter Tryz.func46, Tryz.ntmps46
          go_wp2_with (first
              | (go_at_call 43; refine (spPlanOk_any _ _ _ _).mono ?_; rintro e w1 ⟨rfl, hb⟩; obtain ⟨hc, hf⟩ := bcell hb)
              | (go_at_call 44; refine (l1In_any _ _ _ _).mono ?_; rintro e w' ⟨rfl, rfl⟩)
              | (go_at_call 74; refine (l1Time_any _ _).mono ?_; rintro e w' ⟨rfl, rfl⟩)
              | (go_at_call 75; refine (spInHeap_any _ _).mono ?_; rintro e w' ⟨rfl, rfl⟩)
              | (go_at_call 22; refine (l1Proc_any _ _ _ _ _).mono ?_; rintro e w2 ⟨rfl, hb2⟩; have hb3 := hb.trans (hb2.mono hb.size); obtain ⟨hc2, hf2⟩ := bcell hb3))
          go_ret
          exact ⟨ret_bool' (by simp), k0.trans (hb3.mono k0.size)⟩
        · rw [show timerB a b c ⟨2, wh, nx, pe, pl, ge, ki, ma⟩ = true by simp [timerB, placeB, nextB, h1, h2, h3, h4, h5, h6, h7, h8, h9, h10]]
          clear hp
          go_enter Tryz.func46, Tryz.ntmps46
          go_wp2_with (first
              | (go_at_call 43; refine (spPlanOk_any _ _ _ _).mono ?_; rintro e w1 ⟨rfl, hb⟩; obtain ⟨hc, hf⟩ := bcell hb)
              | (go_at_call 44; refine (l1In_any _ _ _ _).mono ?_; rintro e w' ⟨rfl, rfl⟩)
              | (go_at_call 74; refine (l1Time_any _ _).mono ?_; rintro e w' ⟨rfl, rfl⟩)
              | (go_at_call 75; refine (spInHeap_any _ _).mono ?_; rintro e w' ⟨rfl, rfl⟩)
              | (go_at_call 22; refine (l1Proc_any _ _ _ _ _).mono ?_; rintro e w2 ⟨rfl, hb2⟩; have hb3 := hb.trans (hb2.mono hb.size); obtain ⟨hc2, hf2⟩ := bcell hb3))
          go_ret
          exact ⟨ret_bool' (by simp), k0.trans (hb3.mono k0.size)⟩
      · have ms : (st == 2) = false := by simpa using hs
        have ms2 : (st != 2) = true := by simpa using hs
        rw [show timerB a b c ⟨st, wh, nx, pe, pl, ge, ki, ma⟩ = false by simp [timerB, placeB, nextB, h1, h2, h3, h4, h5, h6, h7, h8, h9, hp, hs]]
        clear hs hp
        go_enter Tryz.func46, Tryz.ntmps46
        go_wp2_with (first
            | (go_at_call 43; refine (spPlanOk_any _ _ _ _).mono ?_; rintro e w1 ⟨rfl, hb⟩; obtain ⟨hc, hf⟩ := bcell hb)
            | (go_at_call 44; refine (l1In_any _ _ _ _).mono ?_; rintro e w' ⟨rfl, rfl⟩)
            | (go_at_call 74; refine (l1Time_any _ _).mono ?_; rintro e w' ⟨rfl, rfl⟩)
            | (go_at_call 75; refine (spInHeap_any _ _).mono ?_; rintro e w' ⟨rfl, rfl⟩)
            | (go_at_call 22; refine (l1Proc_any _ _ _ _ _).mono ?_; rintro e w2 ⟨rfl, hb2⟩; have hb3 := hb.trans (hb2.mono hb.size); obtain ⟨hc2, hf2⟩ := bcell hb3))
        go_ret
        exact ⟨ret_bool' (by simp), k0.trans (hb.mono k0.size)⟩
  · cases h10 : procB a b c pl
    · rw [show timerB a b c ⟨st, wh, nx, pe, pl, ge, ki, ma⟩ = false by simp [timerB, placeB, nextB, h1, h2, h3, h4, h5, h6, h7, h8, h9, h10]]
      go_enter Tryz.func46, Tryz.ntmps46
      go_wp2_with (first
          | (go_at_call 43; refine (spPlanOk_any _ _ _ _).mono ?_; rintro e w1 ⟨rfl, hb⟩; obtain ⟨hc, hf⟩ := bcell hb)
          | (go_at_call 44; refine (l1In_any _ _ _ _).mono ?_; rintro e w' ⟨rfl, rfl⟩)
          | (go_at_call 74; refine (l1Time_any _ _).mono ?_; rintro e w' ⟨rfl, rfl⟩)
          | (go_at_call 75; refine (spInHeap_any _ _).mono ?_; rintro e w' ⟨rfl, rfl⟩)
          | (go_at_call 22; refine (l1Proc_any _ _ _ _ _).mono ?_; rintro e w2 ⟨rfl, hb2⟩; have hb3 := hb.trans (hb2.mono hb.size); obtain ⟨hc2, hf2⟩ := bcell hb3))
      go_ret
      exact ⟨ret_bool' (by simp), k0.trans (hb3.mono k0.size)⟩
    · by_cases hs : st = 3
      · subst hs
        by_cases hl : nx < wh
        · have hd : decide (wh ≤ nx) = false := by simp; omega
          rw [show timerB a b c ⟨3, wh, nx, pe, pl, ge, ki, ma⟩ = true by simp [timerB, placeB, nextB, h1, h2, h3, h4, h5, h6, h7, h8, h9, h10, hl]]
          go_enter Tryz.func46, Tryz.ntmps46
          go_wp2_with (first
              | (go_at_call 43; refine (spPlanOk_any _ _ _ _).mono ?_; rintro e w1 ⟨rfl, hb⟩; obtain ⟨hc, hf⟩ := bcell hb)
              | (go_at_call 44; refine (l1In_any _ _ _ _).mono ?_; rintro e w' ⟨rfl, rfl⟩)
              | (go_at_call 74; refine (l1Time_any _ _).mono ?_; rintro e w' ⟨rfl, rfl⟩)
              | (go_at_call 75; refine (spInHeap_any _ _).mono ?_; rintro e w' ⟨rfl, rfl⟩)
              | (go_at_call 22; refine (l1Proc_any _ _ _ _ _).mono ?_; rintro e w2 ⟨rfl, hb2⟩; have hb3 := hb.trans (hb2.mono hb.size); obtain ⟨hc2, hf2⟩ := bcell hb3))
          go_ret
          exact ⟨ret_bool' (by simp), k0.trans (hb3.mono k0.size)⟩
        · have hd : decide (wh ≤ nx) = true := by simp; omega
          rw [show timerB a b c ⟨3, wh, nx, pe, pl, ge, ki, ma⟩ = false by simp [timerB, placeB, nextB, h1, h2, h3, h4, h5, h6, h7, h8, h9, h10, hl]]
          go_enter Tryz.func46, Tryz.ntmps46
          go_wp2_with (first
              | (go_at_call 43; refine (spPlanOk_any _ _ _ _).mono ?_; rintro e w1 ⟨rfl, hb⟩; obtain ⟨hc, hf⟩ := bcell hb)
              | (go_at_call 44; refine (l1In_any _ _ _ _).mono ?_; rintro e w' ⟨rfl, rfl⟩)
              | (go_at_call 74; refine (l1Time_any _ _).mono ?_; rintro e w' ⟨rfl, rfl⟩)
              | (go_at_call 75; refine (spInHeap_any _ _).mono ?_; rintro e w' ⟨rfl, rfl⟩)
              | (go_at_call 22; refine (l1Proc_any _ _ _ _ _).mono ?_; rintro e w2 ⟨rfl, hb2⟩; have hb3 := hb.trans (hb2.mono hb.size); obtain ⟨hc2, hf2⟩ := bcell hb3))
          go_ret
          exact ⟨ret_bool' (by simp), k0.trans (hb3.mono k0.size)⟩
      · have m3 : (st == 3) = false := by simpa using hs
        by_cases hs4 : st = 4
        · subst hs4
          by_cases hl : nx < wh
          · have hd : decide (nx < wh) = true := by simpa using hl
            rw [show timerB a b c ⟨4, wh, nx, pe, pl, ge, ki, ma⟩ = false by simp [timerB, placeB, nextB, h1, h2, h3, h4, h5, h6, h7, h8, h9, h10, hl]]
            go_enter Tryz.func46, Tryz.ntmps46
            go_wp2_with (first
                | (go_at_call 43; refine (spPlanOk_any _ _ _ _).mono ?_; rintro e w1 ⟨rfl, hb⟩; obtain ⟨hc, hf⟩ := bcell hb)
                | (go_at_call 44; refine (l1In_any _ _ _ _).mono ?_; rintro e w' ⟨rfl, rfl⟩)
                | (go_at_call 74; refine (l1Time_any _ _).mono ?_; rintro e w' ⟨rfl, rfl⟩)
                | (go_at_call 75; refine (spInHeap_any _ _).mono ?_; rintro e w' ⟨rfl, rfl⟩)
                | (go_at_call 22; refine (l1Proc_any _ _ _ _ _).mono ?_; rintro e w2 ⟨rfl, hb2⟩; have hb3 := hb.trans (hb2.mono hb.size); obtain ⟨hc2, hf2⟩ := bcell hb3))
            go_ret
            exact ⟨ret_bool' (by simp), k0.trans (hb3.mono k0.size)⟩
          · have hd : decide (nx < wh) = false := by simpa using hl
            rw [show timerB a b c ⟨4, wh, nx, pe, pl, ge, ki, ma⟩ = true by simp [timerB, placeB, nextB, h1, h2, h3, h4, h5, h6, h7, h8, h9, h10, Int.not_lt.1 hl]]
            go_enter Tryz.func46, Tryz.ntmps46
            go_wp2_with (first
                | (go_at_call 43; refine (spPlanOk_any _ _ _ _).mono ?_; rintro e w1 ⟨rfl, hb⟩; obtain ⟨hc, hf⟩ := bcell hb)
                | (go_at_call 44; refine (l1In_any _ _ _ _).mono ?_; rintro e w' ⟨rfl, rfl⟩)
                | (go_at_call 74; refine (l1Time_any _ _).mono ?_; rintro e w' ⟨rfl, rfl⟩)
                | (go_at_call 75; refine (spInHeap_any _ _).mono ?_; rintro e w' ⟨rfl, rfl⟩)
                | (go_at_call 22; refine (l1Proc_any _ _ _ _ _).mono ?_; rintro e w2 ⟨rfl, hb2⟩; have hb3 := hb.trans (hb2.mono hb.size); obtain ⟨hc2, hf2⟩ := bcell hb3))
            go_ret
            exact ⟨ret_bool' (by simp), k0.trans (hb3.mono k0.size)⟩
        · have m4 : (st == 4) = false := by simpa using hs4
          rw [show timerB a b c ⟨st, wh, nx, pe, pl, ge, ki, ma⟩ = true by simp [timerB, placeB, nextB, h1, h2, h3, h4, h5, h6, h7, h8, h9, h10, hs, hs4]]
          clear hs hs4
          go_enter Tryz.func46, Tryz.ntmps46
          go_wp2_with (first
              | (go_at_call 43; refine (spPlanOk_any _ _ _ _).mono ?_; rintro e w1 ⟨rfl, hb⟩; obtain ⟨hc, hf⟩ := bcell hb)
              | (go_at_call 44; refine (l1In_any _ _ _ _).mono ?_; rintro e w' ⟨rfl, rfl⟩)
              | (go_at_call 74; refine (l1Time_any _ _).mono ?_; rintro e w' ⟨rfl, rfl⟩)
              | (go_at_call 75; refine (spInHeap_any _ _).mono ?_; rintro e w' ⟨rfl, rfl⟩)
              | (go_at_call 22; refine (l1Proc_any _ _ _ _ _).mono ?_; rintro e w2 ⟨rfl, hb2⟩; have hb3 := hb.trans (hb2.mono hb.size); obtain ⟨hc2, hf2⟩ := bcell hb3))
          go_ret
          exact ⟨ret_bool' (by simp), k0.trans (hb3.mono k0.size)⟩

end Go.Proofs.YtonpbmeekgdilaaGreat

/-
  A plan of a law's own (laws).
-/
namespace Go.Proofs.YtonpbmeekgdilaaGreat
open Go.RowKit
set_option linter.unusedVariables false

set_option maxHeartbeats 400000 in
theorem toPlan_any (a b c : Int) (w : World) :
    Calls Tryz.prog 8 #[.agg #[.int .i64 a, .int .i64 b, .int .i64 c]] w fun e w' => e = .returned (.agg #[.int .i64 a, .int .i64 b, .int .i64 c]) ∧ Below w.heap.size w w' := by
  go_enter Tryz.func8, Tryz.ntmps8
  go_wp2
  exact bodyPost_ret (v := .agg #[.int .i64 a, .int .i64 b, .int .i64 c]) (by simp [results, Tryz.results8, go_sem]) rfl ⟨rfl, (((Below.refl _ _).alloc (Nat.le_refl _) _).alloc (by simp) _).alloc (by simp; omega) _⟩

end Go.Proofs.YtonpbmeekgdilaaGreat

/-
  Structs of plain numbers, opened and shut: any number of fields. (No number of the program's but that of int64.)
-/
namespace Go.Proofs.YtonpbmeekgdilaaGreat
open Go.ChangeShapes Go.WideShapes Go.ChangeAt Go.RowKit Go.Joins
set_option linter.unusedVariables false

/-- every field is a number, and lies in one cell -/
def flatF (I : TypeId) (fs : Array Field) : Bool := (List.range fs.size).all fun i => match fs[i]? with
  | some f => f.offset == i && f.type == I
  | none => false
theorem flatF_at {I : TypeId} {fs : Array Field} (h : flatF I fs = true) {i : Nat} {f : Field} (hf : fs[i]? = some f) : f.offset = i ∧ f.type = I := by
  have hi : i < fs.size := (Array.getElem?_eq_some_iff.1 hf).1
  have := List.all_eq_true.1 h i (List.mem_range.2 hi)
  rw [hf] at this
  simpa using this

abbrev numsV (zs : List Int) : List Value := zs.map fun z => .int .i64 z
abbrev numsD {H : Type} (zs : List Int) : List (DataW H) := zs.map fun z => .lit (.int .i64 z)

theorem flat_list {H : Type} {enc : TypeId × Value → H} {P : Program} {w : World} {base n : Nat} {sp : Nat → Bool} {hd : Bool} {I : TypeId} (hI : P.underlying I = some (.int .i64)) :
    ∀ (cs : List Value) (xs : List (DataW H × List MemPlace)), xs.length = cs.length → (∀ (i : Nat) (c : Value), cs[i]? = some c → DataW.trod enc P w base sp hd n I [c] = xs[i]?) →
      ∃ zs : List Int, cs = numsV zs ∧ xs = zs.map (fun z => (.lit (.int .i64 z), [])) ∧ ∀ z ∈ zs, (Lit.int .i64 z).wf = true
  | [], [], _, _ => ⟨[], rfl, rfl, fun _ h => by cases h⟩
  | [], _ :: _, h, _ => by simp at h
  | _ :: _, [], h, _ => by simp at h
  | c :: cs, x :: xs, h, hf => by
    obtain ⟨z, e1, e2, hw⟩ := DataW.trod_int hI (hf 0 c rfl)
    obtain ⟨zs, h1, h2, h3⟩ := flat_list hI cs xs (by simpa using h) (fun i d hd => by simpa using hf (i + 1) d (by simpa using hd))
    simp at e1
    refine ⟨z :: zs, by rw [e1, h1]; rfl, by rw [e2, h2]; rfl, fun y hy => ?_⟩
    rcases List.mem_cons.1 hy with rfl | hy
    · exact hw
    · exact h3 y hy

/-- such a struct's cells, opened -/
theorem trod_flat {H : Type} {enc : TypeId × Value → H} {P : Program} {w : World} {base fuel : Nat} {sp : Nat → Bool} {hd : Bool} {t I : TypeId} {fs : Array Field} {cs : List Value} {x : DataW H × List MemPlace}
    (ht : P.underlying t = some (.struct fs)) (hf : flatF I fs = true) (hI : P.underlying I = some (.int .i64)) (hc : P.cellsOf I = 1) (hC : P.cellsOf t = fs.size) (h : DataW.trod enc P w base sp hd fuel t cs = some x) :
    ∃ zs : List Int, zs.length = fs.size ∧ cs = numsV zs ∧ x = (.agg (numsD zs), []) ∧ ∀ z ∈ zs, (Lit.int .i64 z).wf = true := by
  obtain ⟨xs, n, _, rfl, hl, hlen, hx⟩ := DataW.trod_struct ht h
  obtain ⟨zs, h1, h2, h3⟩ := flat_list (enc := enc) (w := w) (base := base) (sp := sp) (hd := hd) (n := n) hI cs xs (by omega) (fun i c hc' => by
    have hi : i < cs.length := (List.getElem?_eq_some_iff.1 hc').1
    obtain ⟨f, hfi⟩ : ∃ f, fs[i]? = some f := ⟨fs[i]'(by omega), Array.getElem?_eq_getElem (by omega)⟩
    obtain ⟨e1, e2⟩ := flatF_at hf hfi
    have hq := hx i f hfi
    rw [e1, e2, hc] at hq
    rw [← hq]
    congr 1
    rw [List.drop_eq_getElem_cons hi]
    have := List.getElem?_eq_getElem hi
    rw [this] at hc'
    injection hc' with hc'
    simp [hc'])
  refine ⟨zs, by rw [h1] at hl; simpa [hC] using hl, h1, ?_, h3⟩
  rw [h2]
  simp [numsD, Function.comp_def]

/-- and shut -/
theorem trod_flat_mk {H : Type} {enc : TypeId × Value → H} {P : Program} {w : World} {base n : Nat} {sp : Nat → Bool} {hd : Bool} {t I : TypeId} {fs : Array Field} {zs : List Int}
    (ht : P.underlying t = some (.struct fs)) (hf : flatF I fs = true) (hI : P.underlying I = some (.int .i64)) (hc : P.cellsOf I = 1) (hC : P.cellsOf t = fs.size) (hl : zs.length = fs.size) (hw : ∀ z ∈ zs, (Lit.int .i64 z).wf = true) :
    DataW.trod enc P w base sp hd (n + 2) t (numsV zs) = some (.agg (numsD zs), []) := by
  have hm := trod_struct_mk (enc := enc) (w := w) (base := base) (spare := sp) (held := hd) (n := n + 1) (cs := numsV zs) (xs := zs.map (fun z => (.lit (.int .i64 z), []))) ht (by simp [hC, hl])
    (mapM_some_of_get _ _ (by simp [hl]) fun i f hfi => by
      have hfi : fs[i]? = some f := by simpa using hfi
      have hi : i < fs.size := (Array.getElem?_eq_some_iff.1 hfi).1
      obtain ⟨e1, e2⟩ := flatF_at hf hfi
      rw [e1, e2, hc]
      have hi2 : i < zs.length := by omega
      have hd1 : (List.drop i (numsV zs)).take 1 = [.int .i64 zs[i]] := by
        rw [List.drop_eq_getElem_cons (by simpa using hi2)]
        simp
      rw [hd1]
      rw [List.getElem?_map, List.getElem?_eq_getElem hi2]
      simp only [Option.map_some]
      have hz := hw zs[i] (List.getElem_mem hi2)
      unfold DataW.trod
      rw [hI]
      simp [hz])
  rw [hm]
  simp [numsD, Function.comp_def]

theorem open_flat {H : Type} {enc : TypeId × Value → H} {P : Program} {w : World} {b0 base : Nat} {sp : Nat → Bool} {hd : Bool} {r : Reach} {t I : TypeId} {fs : Array Field} {v : Value} {d : DataW H} {p : List MemPlace}
    (ht : P.underlying t = some (.struct fs)) (hf : flatF I fs = true) (hI : P.underlying I = some (.int .i64)) (hc : P.cellsOf I = 1) (hC : P.cellsOf t = fs.size)
    (hv : Value.okWide P w r b0 t v) (h : DataW.Trod enc P w base sp hd t v d p) :
    ∃ zs : List Int, zs.length = fs.size ∧ v = .agg (numsV zs).toArray ∧ d = .agg (numsD zs) ∧ p = [] ∧ ∀ z ∈ zs, (Lit.int .i64 z).wf = true := by
  obtain ⟨cs, rfl, hsz⟩ := okWide_struct ht hv
  obtain ⟨fuel, h⟩ := h
  obtain ⟨zs, h1, h2, h3, h4⟩ := trod_flat ht hf hI hc hC h
  simp only [Prod.mk.injEq] at h3
  refine ⟨zs, h1, ?_, h3.1, h3.2, h4⟩
  have : cs.toList = numsV zs := by simpa [Value.cells] using h2
  rw [← this]
theorem shut_flat {H : Type} {enc : TypeId × Value → H} {P : Program} {w : World} {base : Nat} {sp : Nat → Bool} {hd : Bool} {t I : TypeId} {fs : Array Field} {zs : List Int}
    (ht : P.underlying t = some (.struct fs)) (hf : flatF I fs = true) (hI : P.underlying I = some (.int .i64)) (hc : P.cellsOf I = 1) (hC : P.cellsOf t = fs.size) (hl : zs.length = fs.size) (hw : ∀ z ∈ zs, (Lit.int .i64 z).wf = true) :
    DataW.Trod enc P w base sp hd t (.agg (numsV zs).toArray) (.agg (numsD zs)) [] :=
  ⟨2, by simpa [Value.cells] using trod_flat_mk (n := 0) ht hf hI hc hC hl hw⟩
theorem eight {zs : List Int} (h : zs.length = 8) : ∃ a b c d e f g k, zs = [a, b, c, d, e, f, g, k] := by
  match zs, h with
  | [a, b, c, d, e, f, g, k], _ => exact ⟨a, b, c, d, e, f, g, k, rfl⟩

end Go.Proofs.YtonpbmeekgdilaaGreat

/-
  The exact laws on timers, told what the program's own functions answer.
-/
namespace Go.Proofs.YtonpbmeekgdilaaGreat
open Go.ChangeShapes Go.WideShapes Go.ChangeAt Go.RowKit Go.Joins
set_option linter.unusedVariables false

/-- what the program's TimerOk, InHeap are to answer -/
def AsksT (fn : FuncId) : Prop := ∀ (a b c : Int) (t : Tm) (w : World), Calls Tryz.prog fn #[.agg #[.int .i64 a, .int .i64 b, .int .i64 c], tmV t] w fun e w' => e = .returned (.bool (timerB a b c t)) ∧ Below w.heap.size w w'
def AsksS (fn : FuncId) : Prop := ∀ (s : Int) (w : World), Calls Tryz.prog fn #[.int .i64 s] w fun e w' => e = .returned (.bool (inHeapB s)) ∧ Below w.heap.size w w'

set_option maxHeartbeats 400000 in
theorem toTimer_any (t : Tm) (w : World) :
    Calls Tryz.prog 50 #[tmV t] w fun e w' => e = .returned (tmV t) ∧ Below w.heap.size w w' := by
  go_enter Tryz.func50, Tryz.ntmps50
  go_wp2
  exact bodyPost_ret (v := tmV t) (by simp [results, Tryz.results50, go_sem]) rfl ⟨rfl, (((Below.refl _ _).alloc (Nat.le_refl _) _).alloc (by simp) _).alloc (by simp; omega) _⟩
theorem spTimerOk_any (a b c : Int) (t : Tm) (w : World) :
    Calls Tryz.prog 46 #[.agg #[.int .i64 a, .int .i64 b, .int .i64 c], tmV t] w fun e w' => e = .returned (.bool (timerB a b c t)) ∧ Below w.heap.size w w' :=
  spTimerOk_eight a b c t.st t.wh t.nx t.pe t.pl t.ge t.ki t.ma w

theorem cellsPlanLaw : Tryz.prog.cellsOf 23 = 3 := by kernel_rfl
set_option maxRecDepth 100000 in
/-- a plan of three numbers, opened -/
theorem open_plan {H : Type} {enc : TypeId × Value → H} {W : World} {base : Nat} {sp : Nat → Bool} {hd : Bool} {v : Value} {d : DataW H} {p : List MemPlace}
    (hv : Value.okWide Tryz.prog W .any base 23 v) (h : DataW.Trod enc Tryz.prog W 0 sp hd 23 v d p) :
    ∃ a b c : Int, v = .agg #[.int .i64 a, .int .i64 b, .int .i64 c] ∧ d = .agg (numsD [a, b, c]) ∧ p = [] ∧ ∀ z ∈ [a, b, c], (Lit.int .i64 z).wf = true := by
  obtain ⟨zs, hl, rfl, rfl, rfl, hw⟩ := open_flat Tryz.underlying23 (I := 2) (by kernel_rfl) Tryz.underlying2 (by kernel_rfl) (by kernel_rfl) hv h
  match zs, hl with
  | [a, b, c], _ => exact ⟨a, b, c, rfl, rfl, rfl, hw⟩
set_option maxRecDepth 100000 in
theorem shut_plan {H : Type} {enc : TypeId × Value → H} {a b c : Int} (hw : ∀ z ∈ [a, b, c], (Lit.int .i64 z).wf = true) (W' : World) (n : Nat) (sp : Nat → Bool) (hd : Bool) :
    DataW.Trod enc Tryz.prog W' n sp hd 23 (.agg #[.int .i64 a, .int .i64 b, .int .i64 c]) (.agg (numsD [a, b, c])) [] :=
  shut_flat (zs := [a, b, c]) Tryz.underlying23 (I := 2) (by kernel_rfl) Tryz.underlying2 (by kernel_rfl) (by kernel_rfl) rfl hw
abbrev tmL (t : Tm) : List Int := [t.st, t.wh, t.nx, t.pe, t.pl, t.ge, t.ki, t.ma]
set_option maxRecDepth 100000 in
theorem open_timer {H : Type} {enc : TypeId × Value → H} {W : World} {base : Nat} {sp : Nat → Bool} {hd : Bool} {v : Value} {d : DataW H} {p : List MemPlace}
    (hv : Value.okWide Tryz.prog W .any base 79 v) (h : DataW.Trod enc Tryz.prog W 0 sp hd 79 v d p) :
    ∃ t : Tm, v = tmV t ∧ d = .agg (numsD (tmL t)) ∧ p = [] ∧ ∀ z ∈ tmL t, (Lit.int .i64 z).wf = true := by
  obtain ⟨zs, hl, rfl, rfl, rfl, hw⟩ := open_flat Tryz.underlying79 (I := 2) (by kernel_rfl) Tryz.underlying2 (by kernel_rfl) (by kernel_rfl) hv h
  match zs, hl with
  | [a, b, c, d, e, f, g, k], _ => exact ⟨⟨a, b, c, d, e, f, g, k⟩, rfl, rfl, rfl, hw⟩
set_option maxRecDepth 100000 in
theorem shut_timer {H : Type} {enc : TypeId × Value → H} {t : Tm} (hw : ∀ z ∈ tmL t, (Lit.int .i64 z).wf = true) (W' : World) (n : Nat) (sp : Nat → Bool) (hd : Bool) :
    DataW.Trod enc Tryz.prog W' n sp hd 79 (tmV t) (.agg (numsD (tmL t))) [] :=
  shut_flat (zs := tmL t) Tryz.underlying79 (I := 2) (by kernel_rfl) Tryz.underlying2 (by kernel_rfl) (by kernel_rfl) rfl hw

/-! ### FnExactTimerOk -/
/-! ### FnExactInHeap -/
end Go.Proofs.YtonpbmeekgdilaaGreat

/-
  The laws' own helpers on lists of timers: measured, copied out of the law's argument, compared.
-/
namespace Go.Proofs.YtonpbmeekgdilaaGreat
open Go.RowKit Go.Joins
set_option linter.unusedVariables false

/-- a timer's eight cells in the midst of a list -/
theorem cells8 {w : World} {b o : Nat} {t : Tm} (h : ∀ j, j < 8 → w.cell? ⟨b, o + j, none⟩ = some (.int .i64 (tmAt t j))) :
    w.cell? ⟨b, o, none⟩ = some (.int .i64 t.st) ∧ w.cell? ⟨b, o + 1, none⟩ = some (.int .i64 t.wh) ∧ w.cell? ⟨b, o + 2, none⟩ = some (.int .i64 t.nx) ∧ w.cell? ⟨b, o + 3, none⟩ = some (.int .i64 t.pe) ∧ w.cell? ⟨b, o + 4, none⟩ = some (.int .i64 t.pl) ∧ w.cell? ⟨b, o + 5, none⟩ = some (.int .i64 t.ge) ∧ w.cell? ⟨b, o + 6, none⟩ = some (.int .i64 t.ki) ∧ w.cell? ⟨b, o + 7, none⟩ = some (.int .i64 t.ma) :=
  ⟨h 0 (by decide), h 1 (by decide), h 2 (by decide), h 3 (by decide), h 4 (by decide), h 5 (by decide), h 6 (by decide), h 7 (by decide)⟩

set_option maxHeartbeats 400000 in
theorem szTimerS_is {v : Value} {n : Nat} (hv : ∃ a cap, v = .slice a n cap) (left : Int) (w : World) (h0 : 0 ≤ left) (h1 : left ≤ 1048576) (hm : n ≤ maxLen) :
    Calls Tryz.prog 18 #[v, .int .i64 left] w fun e w' => e = .returned (.int .i64 (if left < (n : Int) then -1 else left - n)) ∧ w = w' := by
  obtain ⟨a, cap, rfl⟩ := hv
  unfold maxLen at hm
  by_cases h : left < (n : Int)
  · rw [if_pos h]
    go_enter Tryz.func18, Tryz.ntmps18
    go_wp2
    go_ret
    exact ⟨rfl, rfl⟩
  · rw [if_neg h]
    go_enter Tryz.func18, Tryz.ntmps18
    go_wp2
    go_ret
    exact ⟨rfl, rfl⟩

set_option maxHeartbeats 1000000 in
theorem eqTimer_same (t : Tm) (w : World) :
    Calls Tryz.prog 60 #[tmV t, tmV t] w fun e w' => e = .returned (.bool true) ∧ Below w.heap.size w w' := by
  go_enter Tryz.func60, Tryz.ntmps60
  go_wp2
  go_ret
  exact ⟨rfl, ((Below.refl _ _).alloc (Nat.le_refl _) _).alloc (by simp) _⟩

/-! ### copied -/
theorem timer_info : (Tryz.prog.info? 70).map (fun i => (i.zero, i.size, i.bytes)) = some (some (.agg #[.int .i64 0, .int .i64 0, .int .i64 0, .int .i64 0, .int .i64 0, .int .i64 0, .int .i64 0, .int .i64 0]), 8, 64) := by kernel_rfl
def tm0 : Tm := ⟨0, 0, 0, 0, 0, 0, 0, 0⟩
theorem madeT_zero (n i j : Nat) (hi : i < n) (hj : j < 8) : (madeCells #[.int .i64 0, .int .i64 0, .int .i64 0, .int .i64 0, .int .i64 0, .int .i64 0, .int .i64 0, .int .i64 0] (n * 8))[i * 8 + j]? = some (.int .i64 (tmAt tm0 j)) := by
  rw [Array.getElem?_eq_getElem (by rw [size_madeCells]; omega)]
  have hm : (i * 8 + j) % 8 = j := by omega
  simp [madeCells, hm]
  revert j
  apply below8 <;> intros <;> rfl
theorem ownT_made (w : World) (n : Nat) (hn : n ≤ maxLen) : OwnTAt (w.alloc (.cells (madeCells #[.int .i64 0, .int .i64 0, .int .i64 0, .int .i64 0, .int .i64 0, .int .i64 0, .int .i64 0, .int .i64 0] (n * 8)) 70)) w.heap.size w.heap.size n n (fun _ => tm0) :=
  ⟨Nat.le_refl _, Nat.le_refl _, hn, _, heap_alloc_new w _, size_madeCells _ _, fun i hi j hj => madeT_zero n i j hi hj⟩
theorem run_make_timers (n : Nat) (hn : n ≤ 1048576) : ∀ w : World, (Instr.makeSlice 29 (.int .i64 (n : Int)) (.int .i64 (n : Int))).run Tryz.prog w = .ok (.slice (some ⟨w.heap.size, 0, none⟩) n n) (w.alloc (.cells (madeCells #[.int .i64 0, .int .i64 0, .int .i64 0, .int .i64 0, .int .i64 0, .int .i64 0, .int .i64 0, .int .i64 0] (n * 8)) 70)) := by
  intro w
  obtain ⟨i0, hi, hz, hs, hby⟩ := info_parts timer_info
  have hr := run_make (P := Tryz.prog) w 29 70 i0 _ Tryz.underlying29 hi hz .i64 .i64 (n : Int) (n : Int) (by omega) (by omega) (by rw [hby]; omega) (by omega)
  rw [hs] at hr
  simp only [Int.toNat_natCast] at hr
  exact hr
def upToT (f : Tms) (k : Nat) : Tms := fun i => if i < k then f i else tm0
theorem upToT_put {f : Tms} {k n : Nat} : ∀ i, i < n → putT (upToT f k) k (f k) i = upToT f (k + 1) i := by
  intro i _
  unfold putT upToT
  by_cases e : i = k
  · subst e; simp
  · rw [if_neg e]
    by_cases h : i < k
    · rw [if_pos h, if_pos (by omega)]
    · rw [if_neg h, if_neg (by omega)]
/-- a call that makes a new list of timers -/
def NewTRow (n : Nat) (f : Tms) (w : World) (e : Ending) (w' : World) : Prop := ∃ v, e = .returned v ∧ OwnTRow w' w.heap.size v n f ∧ Below w.heap.size w w'

set_option maxRecDepth 100000 in
set_option maxHeartbeats 1000000 in
theorem toTimerS_any {v : Value} {n : Nat} {f : Tms} {w : World} (hn : n ≤ 1048576) (h : RowTAt w v n f) :
    Calls Tryz.prog 25 #[v] w (NewTRow n f w) := by
  have hmk := run_make_timers n hn
  have hO := ownT_made w n (by unfold maxLen; omega)
  have hb0 := (Below.refl w.heap.size w).alloc (Nat.le_refl _) (.cells (madeCells #[.int .i64 0, .int .i64 0, .int .i64 0, .int .i64 0, .int .i64 0, .int .i64 0, .int .i64 0, .int .i64 0] (n * 8)) 70)
  rcases h with ⟨h0, a, cap, hv⟩ | ⟨b, off, cap, rfl, hl, hc⟩
  · obtain rfl : v = .slice a n cap := by rw [hv, h0]
    have HO := Lib.hid (hO.congr (f' := f) (fun i hi => by omega))
    have HB := Lib.hid hb0
    have H0 := Lib.hid h0
    clear hO hb0 hv h0
    go_enter Tryz.func25, Tryz.ntmps25
    go_wp2
    go_loopw [4] (fun i wr => i = .int .i64 0 ∧ OwnTAt wr w.heap.size w.heap.size n n f ∧ Below w.heap.size w wr) (fun _ _ => 0)
    case atStart => exact ⟨rfl, HO.out, HB.out⟩
    case round =>
      obtain ⟨rfl, hOk, hbk⟩ := hrel
      have h1 : ¬ (0 : Int) < (n : Int) := by have := H0.out; omega
      have h2 : ¬ 0 < n := by have := H0.out; omega
      go_wp2
      go_ret
      exact ⟨_, rfl, hOk.own, hbk⟩
  · have H := Lib.hid hc
    have HO := Lib.hid (hO.congr (f' := upToT f 0) (fun i hi => by simp [upToT]))
    have HB := Lib.hid hb0
    clear hc hO hb0
    go_enter Tryz.func25, Tryz.ntmps25
    go_wp2
    go_loopw [4] (fun i wr => ∃ k : Nat, k ≤ n ∧ i = .int .i64 k ∧ OwnTAt wr w.heap.size w.heap.size n n (upToT f k) ∧ Below w.heap.size w wr) (fun i _ => n - (intOf i).toNat)
    case atStart => exact ⟨0, Nat.zero_le _, rfl, HO.out, HB.out⟩
    case round =>
      obtain ⟨k, hk, rfl, hOk, hbk⟩ := hrel
      by_cases hlt : k < n
      · obtain ⟨c0, c1, c2, c3, c4, c5, c6, c7⟩ := cells8 (w := wr) (b := b) (o := off + k * 8) (t := f k) (fun j hj => (hbk.cell (p := ⟨b, off + k * 8 + j, none⟩) hl).trans (H.out k hlt j hj))
        have h1 : (k : Int) < (n : Int) := by omega
        go_wp2_with fail
        go_at_call 50; refine (toTimer_any (f k) _).mono ?_; rintro e w1 ⟨rfl, hb1⟩
        have hO1 := hOk.below hb1
        have hbk1 := btrans hbk hb1
        have fr := hO1.free
        have f0 := fr (k * 8); have f1 := fr (k * 8 + 1); have f2 := fr (k * 8 + 2); have f3 := fr (k * 8 + 3); have f4 := fr (k * 8 + 4); have f5 := fr (k * 8 + 5); have f6 := fr (k * 8 + 6); have f7 := fr (k * 8 + 7)
        obtain ⟨d0, d1, d2, d3, d4, d5, d6, d7⟩ := cells8 (w := w1) (b := w.heap.size) (o := k * 8) (t := upToT f k k) (hO1.cells hlt)
        have hOn := (hO1.put hlt (f k)).congr (upToT_put (f := f))
        have kn : Below w.heap.size w (setT w1 w.heap.size k (f k)) := (((((((hbk1.setCell (p := ⟨w.heap.size, k * 8, none⟩) (Nat.le_refl _) _).setCell (p := ⟨w.heap.size, k * 8 + 1, none⟩) (Nat.le_refl _) _).setCell (p := ⟨w.heap.size, k * 8 + 2, none⟩) (Nat.le_refl _) _).setCell (p := ⟨w.heap.size, k * 8 + 3, none⟩) (Nat.le_refl _) _).setCell (p := ⟨w.heap.size, k * 8 + 4, none⟩) (Nat.le_refl _) _).setCell (p := ⟨w.heap.size, k * 8 + 5, none⟩) (Nat.le_refl _) _).setCell (p := ⟨w.heap.size, k * 8 + 6, none⟩) (Nat.le_refl _) _).setCell (p := ⟨w.heap.size, k * 8 + 7, none⟩) (Nat.le_refl _) _
        clear hb1 fr c0 c1 c2 c3 c4 c5 c6 c7 hOk hbk hO1 hbk1
        go_wp2
        exact ⟨⟨k + 1, by omega, by go_num, hOn, kn⟩, by simp only [intOf]; omega⟩
      · have hkn : k = n := by omega
        subst hkn
        go_wp2
        go_ret
        exact ⟨_, rfl, (hOk.congr (fun i hi => by simp [upToT, hi])).own, hbk⟩

end Go.Proofs.YtonpbmeekgdilaaGreat
