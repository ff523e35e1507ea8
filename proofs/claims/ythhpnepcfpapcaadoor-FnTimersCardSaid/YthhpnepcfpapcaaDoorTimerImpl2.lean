/-
  Timers, in the program: the place that a status wants; is a timer right?
-/
import Derived.Test.YthhpnepcfpapcaaDoorTimerImpl
import Derived.Test.YthhpnepcfpapcaaDoorTimerExact
import Derived.Test.YthhpnepcfpapcaaDoorTimerDraw
namespace Go.Proofs.YthhpnepcfpapcaaDoor
open Go.RowKit Go.Joins
set_option linter.unusedVariables false

set_option maxHeartbeats 400000 in
theorem imInHeap_any : AsksS 13 := by
  intro s w
  go_enter Tryd.func13, Tryd.ntmps13
  go_wp2_with (go_at_call 32; refine (stInHeap_any _ _).mono ?_; rintro e w1 ⟨rfl, rfl⟩)
  go_ret
  exact ⟨rfl, Below.refl _ _⟩

set_option maxRecDepth 100000 in
set_option maxHeartbeats 4000000 in
theorem place_eight (a b c st wh nx pe pl ge ki ma : Int) (w : World) :
    Calls Tryd.prog 25 #[.agg #[.int .i64 st, .int .i64 wh, .int .i64 nx, .int .i64 pe, .int .i64 pl, .int .i64 ge, .int .i64 ki, .int .i64 ma], .agg #[.int .i64 a, .int .i64 b, .int .i64 c]] w fun e w' => e = .returned (.bool (putB a b c ⟨st, wh, nx, pe, pl, ge, ki, ma⟩)) ∧ Below w.heap.size w w' := by
  have K := ((Below.refl w.heap.size w).alloc (Nat.le_refl _) (.cells #[.int .i64 st, .int .i64 wh, .int .i64 nx, .int .i64 pe, .int .i64 pl, .int .i64 ge, .int .i64 ki, .int .i64 ma] 27)).alloc (by simp) (.cells #[.int .i64 a, .int .i64 b, .int .i64 c] 25)
  have p0 := alloc_block (.cells #[.int .i64 a, .int .i64 b, .int .i64 c] 25) (heap_alloc_new w (.cells #[.int .i64 st, .int .i64 wh, .int .i64 nx, .int .i64 pe, .int .i64 pl, .int .i64 ge, .int .i64 ki, .int .i64 ma] 27))
  have p1 := heap_alloc_new (w.alloc (.cells #[.int .i64 st, .int .i64 wh, .int .i64 nx, .int .i64 pe, .int .i64 pl, .int .i64 ge, .int .i64 ki, .int .i64 ma] 27)) (.cells #[.int .i64 a, .int .i64 b, .int .i64 c] 25)
  rw [show (w.alloc (.cells #[.int .i64 st, .int .i64 wh, .int .i64 nx, .int .i64 pe, .int .i64 pl, .int .i64 ge, .int .i64 ki, .int .i64 ma] 27)).heap.size = w.heap.size + 1 by simp] at p1
  have l0 := lt_of_block p0
  have l1 := lt_of_block p1
  have kk := (Below.refl ((w.alloc (.cells #[.int .i64 st, .int .i64 wh, .int .i64 nx, .int .i64 pe, .int .i64 pl, .int .i64 ge, .int .i64 ki, .int .i64 ma] 27)).alloc (.cells #[.int .i64 a, .int .i64 b, .int .i64 c] 25)).heap.size ((w.alloc (.cells #[.int .i64 st, .int .i64 wh, .int .i64 nx, .int .i64 pe, .int .i64 pl, .int .i64 ge, .int .i64 ki, .int .i64 ma] 27)).alloc (.cells #[.int .i64 a, .int .i64 b, .int .i64 c] 25))).drew
  by_cases h2 : st = 2
  · subst h2
    cases hp : procB a b c pl
    · have HP := Lib.hid hp
      by_cases h1 : pl = -1
      · subst h1
        rw [show putB a b c ⟨2, wh, nx, pe, -1, ge, ki, ma⟩ = true by simp [putB]]
        clear hp
        go_enter Tryd.func25, Tryd.ntmps25
        go_wp2_with fail
        go_region_held3 (fun w' => w'.cell? ⟨w.heap.size, 4, none⟩ = some (.int .i64 (-1)) ∧ w'.cell? ⟨w.heap.size + 1, 0, none⟩ = some (.int .i64 a) ∧ w'.cell? ⟨w.heap.size + 1, 1, none⟩ = some (.int .i64 b) ∧ w'.cell? ⟨w.heap.size + 1, 2, none⟩ = some (.int .i64 c))
          (exact ⟨(kk.cell (p := ⟨w.heap.size, 4, none⟩) l0).trans (cell_of_block p0 4), (kk.cell (p := ⟨w.heap.size + 1, 0, none⟩) l1).trans (cell_of_block p1 0), (kk.cell (p := ⟨w.heap.size + 1, 1, none⟩) l1).trans (cell_of_block p1 1), (kk.cell (p := ⟨w.heap.size + 1, 2, none⟩) l1).trans (cell_of_block p1 2)⟩)
          (first | (go_at_call 38; refine (hasProc_any _ _ _ _ _).mono ?_; rw [HP.out]; rintro e w1 ⟨rfl, hb⟩; replace kk := kk.trans (hb.mono kk.size); clear hb))
        all_goals
          go_wp2_with (first
            | (go_at_call 32; refine (stInHeap_any _ _).mono ?_; rintro e w' ⟨rfl, rfl⟩)
            | (go_at_call 39; refine (known_any _ _).mono ?_; rintro e w' ⟨rfl, rfl⟩))
          go_ret
          exact ⟨ret_bool' (by simp), K.trans (kk.mono K.size)⟩
      · have b1 : (pl == -1) = false := by simpa using h1
        rw [show putB a b c ⟨2, wh, nx, pe, pl, ge, ki, ma⟩ = false by simp [putB, hp, h1]]
        clear hp h1
        go_enter Tryd.func25, Tryd.ntmps25
        go_wp2_with fail
        go_region_held3 (fun w' => w'.cell? ⟨w.heap.size, 4, none⟩ = some (.int .i64 pl) ∧ w'.cell? ⟨w.heap.size + 1, 0, none⟩ = some (.int .i64 a) ∧ w'.cell? ⟨w.heap.size + 1, 1, none⟩ = some (.int .i64 b) ∧ w'.cell? ⟨w.heap.size + 1, 2, none⟩ = some (.int .i64 c))
          (exact ⟨(kk.cell (p := ⟨w.heap.size, 4, none⟩) l0).trans (cell_of_block p0 4), (kk.cell (p := ⟨w.heap.size + 1, 0, none⟩) l1).trans (cell_of_block p1 0), (kk.cell (p := ⟨w.heap.size + 1, 1, none⟩) l1).trans (cell_of_block p1 1), (kk.cell (p := ⟨w.heap.size + 1, 2, none⟩) l1).trans (cell_of_block p1 2)⟩)
          (first | (go_at_call 38; refine (hasProc_any _ _ _ _ _).mono ?_; rw [HP.out]; rintro e w1 ⟨rfl, hb⟩; replace kk := kk.trans (hb.mono kk.size); clear hb))
        all_goals
          go_wp2_with (first
            | (go_at_call 32; refine (stInHeap_any _ _).mono ?_; rintro e w' ⟨rfl, rfl⟩)
            | (go_at_call 39; refine (known_any _ _).mono ?_; rintro e w' ⟨rfl, rfl⟩))
          go_ret
          exact ⟨ret_bool' (by simp), K.trans (kk.mono K.size)⟩
    · have HP := Lib.hid hp
      rw [show putB a b c ⟨2, wh, nx, pe, pl, ge, ki, ma⟩ = true by simp [putB, hp]]
      clear hp
      go_enter Tryd.func25, Tryd.ntmps25
      go_wp2_with fail
      go_region_held3 (fun w' => w'.cell? ⟨w.heap.size, 4, none⟩ = some (.int .i64 pl) ∧ w'.cell? ⟨w.heap.size + 1, 0, none⟩ = some (.int .i64 a) ∧ w'.cell? ⟨w.heap.size + 1, 1, none⟩ = some (.int .i64 b) ∧ w'.cell? ⟨w.heap.size + 1, 2, none⟩ = some (.int .i64 c))
        (exact ⟨(kk.cell (p := ⟨w.heap.size, 4, none⟩) l0).trans (cell_of_block p0 4), (kk.cell (p := ⟨w.heap.size + 1, 0, none⟩) l1).trans (cell_of_block p1 0), (kk.cell (p := ⟨w.heap.size + 1, 1, none⟩) l1).trans (cell_of_block p1 1), (kk.cell (p := ⟨w.heap.size + 1, 2, none⟩) l1).trans (cell_of_block p1 2)⟩)
        (first | (go_at_call 38; refine (hasProc_any _ _ _ _ _).mono ?_; rw [HP.out]; rintro e w1 ⟨rfl, hb⟩; replace kk := kk.trans (hb.mono kk.size); clear hb))
      all_goals
        go_wp2_with (first
          | (go_at_call 32; refine (stInHeap_any _ _).mono ?_; rintro e w' ⟨rfl, rfl⟩)
          | (go_at_call 39; refine (known_any _ _).mono ?_; rintro e w' ⟨rfl, rfl⟩))
        go_ret
        exact ⟨ret_bool' (by simp), K.trans (kk.mono K.size)⟩
  have b2 : (st == 2) = false := by simpa using h2
  cases hi : inHeapB st
  · cases hk : inB st 0 7
    · rw [show putB a b c ⟨st, wh, nx, pe, pl, ge, ki, ma⟩ = false by simp [putB, h2, hi, hk]]
      clear h2
      go_enter Tryd.func25, Tryd.ntmps25
      go_wp2_with fail
      go_region_held3 (fun w' => w'.cell? ⟨w.heap.size, 4, none⟩ = some (.int .i64 pl) ∧ w'.cell? ⟨w.heap.size + 1, 0, none⟩ = some (.int .i64 a) ∧ w'.cell? ⟨w.heap.size + 1, 1, none⟩ = some (.int .i64 b) ∧ w'.cell? ⟨w.heap.size + 1, 2, none⟩ = some (.int .i64 c))
        (exact ⟨(kk.cell (p := ⟨w.heap.size, 4, none⟩) l0).trans (cell_of_block p0 4), (kk.cell (p := ⟨w.heap.size + 1, 0, none⟩) l1).trans (cell_of_block p1 0), (kk.cell (p := ⟨w.heap.size + 1, 1, none⟩) l1).trans (cell_of_block p1 1), (kk.cell (p := ⟨w.heap.size + 1, 2, none⟩) l1).trans (cell_of_block p1 2)⟩)
        (first | (go_at_call 38; refine (hasProc_any _ _ _ _ _).mono ?_; rintro e w1 ⟨rfl, hb⟩; replace kk := kk.trans (hb.mono kk.size); clear hb))
      all_goals
        go_wp2_with (first
          | (go_at_call 32; refine (stInHeap_any _ _).mono ?_; rintro e w' ⟨rfl, rfl⟩)
          | (go_at_call 39; refine (known_any _ _).mono ?_; rintro e w' ⟨rfl, rfl⟩))
        go_ret
        exact ⟨ret_bool' (by simp), K.trans (kk.mono K.size)⟩
    · by_cases h1 : pl = -1
      · subst h1
        rw [show putB a b c ⟨st, wh, nx, pe, -1, ge, ki, ma⟩ = true by simp [putB, h2, hi, hk]]
        clear h2
        go_enter Tryd.func25, Tryd.ntmps25
        go_wp2_with fail
        go_region_held3 (fun w' => w'.cell? ⟨w.heap.size, 4, none⟩ = some (.int .i64 (-1)) ∧ w'.cell? ⟨w.heap.size + 1, 0, none⟩ = some (.int .i64 a) ∧ w'.cell? ⟨w.heap.size + 1, 1, none⟩ = some (.int .i64 b) ∧ w'.cell? ⟨w.heap.size + 1, 2, none⟩ = some (.int .i64 c))
          (exact ⟨(kk.cell (p := ⟨w.heap.size, 4, none⟩) l0).trans (cell_of_block p0 4), (kk.cell (p := ⟨w.heap.size + 1, 0, none⟩) l1).trans (cell_of_block p1 0), (kk.cell (p := ⟨w.heap.size + 1, 1, none⟩) l1).trans (cell_of_block p1 1), (kk.cell (p := ⟨w.heap.size + 1, 2, none⟩) l1).trans (cell_of_block p1 2)⟩)
          (first | (go_at_call 38; refine (hasProc_any _ _ _ _ _).mono ?_; rintro e w1 ⟨rfl, hb⟩; replace kk := kk.trans (hb.mono kk.size); clear hb))
        all_goals
          go_wp2_with (first
            | (go_at_call 32; refine (stInHeap_any _ _).mono ?_; rintro e w' ⟨rfl, rfl⟩)
            | (go_at_call 39; refine (known_any _ _).mono ?_; rintro e w' ⟨rfl, rfl⟩))
          go_ret
          exact ⟨ret_bool' (by simp), K.trans (kk.mono K.size)⟩
      · have b1 : (pl == -1) = false := by simpa using h1
        rw [show putB a b c ⟨st, wh, nx, pe, pl, ge, ki, ma⟩ = false by simp [putB, h2, hi, h1]]
        clear h2 h1
        go_enter Tryd.func25, Tryd.ntmps25
        go_wp2_with fail
        go_region_held3 (fun w' => w'.cell? ⟨w.heap.size, 4, none⟩ = some (.int .i64 pl) ∧ w'.cell? ⟨w.heap.size + 1, 0, none⟩ = some (.int .i64 a) ∧ w'.cell? ⟨w.heap.size + 1, 1, none⟩ = some (.int .i64 b) ∧ w'.cell? ⟨w.heap.size + 1, 2, none⟩ = some (.int .i64 c))
          (exact ⟨(kk.cell (p := ⟨w.heap.size, 4, none⟩) l0).trans (cell_of_block p0 4), (kk.cell (p := ⟨w.heap.size + 1, 0, none⟩) l1).trans (cell_of_block p1 0), (kk.cell (p := ⟨w.heap.size + 1, 1, none⟩) l1).trans (cell_of_block p1 1), (kk.cell (p := ⟨w.heap.size + 1, 2, none⟩) l1).trans (cell_of_block p1 2)⟩)
          (first | (go_at_call 38; refine (hasProc_any _ _ _ _ _).mono ?_; rintro e w1 ⟨rfl, hb⟩; replace kk := kk.trans (hb.mono kk.size); clear hb))
        all_goals
          go_wp2_with (first
            | (go_at_call 32; refine (stInHeap_any _ _).mono ?_; rintro e w' ⟨rfl, rfl⟩)
            | (go_at_call 39; refine (known_any _ _).mono ?_; rintro e w' ⟨rfl, rfl⟩))
          go_ret
          exact ⟨ret_bool' (by simp), K.trans (kk.mono K.size)⟩
  · rw [show putB a b c ⟨st, wh, nx, pe, pl, ge, ki, ma⟩ = procB a b c pl by simp [putB, h2, hi]]
    clear h2
    go_enter Tryd.func25, Tryd.ntmps25
    go_wp2_with fail
    go_region_held3 (fun w' => w'.cell? ⟨w.heap.size, 4, none⟩ = some (.int .i64 pl) ∧ w'.cell? ⟨w.heap.size + 1, 0, none⟩ = some (.int .i64 a) ∧ w'.cell? ⟨w.heap.size + 1, 1, none⟩ = some (.int .i64 b) ∧ w'.cell? ⟨w.heap.size + 1, 2, none⟩ = some (.int .i64 c))
      (exact ⟨(kk.cell (p := ⟨w.heap.size, 4, none⟩) l0).trans (cell_of_block p0 4), (kk.cell (p := ⟨w.heap.size + 1, 0, none⟩) l1).trans (cell_of_block p1 0), (kk.cell (p := ⟨w.heap.size + 1, 1, none⟩) l1).trans (cell_of_block p1 1), (kk.cell (p := ⟨w.heap.size + 1, 2, none⟩) l1).trans (cell_of_block p1 2)⟩)
      (first | (go_at_call 38; refine (hasProc_any _ _ _ _ _).mono ?_; rintro e w1 ⟨rfl, hb⟩; replace kk := kk.trans (hb.mono kk.size); clear hb))
    all_goals
      go_wp2_with (first
        | (go_at_call 32; refine (stInHeap_any _ _).mono ?_; rintro e w' ⟨rfl, rfl⟩)
        | (go_at_call 39; refine (known_any _ _).mono ?_; rintro e w' ⟨rfl, rfl⟩))
      go_ret
      exact ⟨ret_bool' (by simp), K.trans (kk.mono K.size)⟩

theorem place_any (a b c : Int) (t : Tm) (w : World) :
    Calls Tryd.prog 25 #[tmV t, .agg #[.int .i64 a, .int .i64 b, .int .i64 c]] w fun e w' => e = .returned (.bool (putB a b c t)) ∧ Below w.heap.size w w' :=
  place_eight a b c t.st t.wh t.nx t.pe t.pl t.ge t.ki t.ma w

theorem timerB_eq (a b c : Int) (t : Tm) : timerB a b c t = (planB a b c && (numB t && (putB a b c t && nextB t))) := by
  have hp : (inB t.st 0 7 && placeB a b c t) = putB a b c t := by
    unfold placeB putB
    by_cases h2 : t.st = 2
    · simp [h2, inHeapB, inB, Bool.or_comm]
    · cases hi : inHeapB t.st
      · have b2 : (t.st == 2) = false := by simpa using h2
        simp [h2, b2]
      · have hk : inB t.st 0 7 = true := by
          simp only [inHeapB, Bool.or_eq_true, beq_iff_eq] at hi
          rw [inB_iff]; omega
        simp [h2, hk]
  rw [← hp]
  unfold timerB numB
  cases planB a b c <;> cases inB t.st 0 7 <;> simp <;> cases placeB a b c t <;> simp [Bool.and_assoc, Bool.and_comm]

set_option maxRecDepth 100000 in
set_option maxHeartbeats 4000000 in
theorem imTimerOk_any : AsksT 9 := by
  intro a b c t w
  rw [timerB_eq]
  have hPv := alloc_block (tmO t 27) (heap_alloc_new w (.cells #[.int .i64 a, .int .i64 b, .int .i64 c] 25))
  have hTv := heap_alloc_new (w.alloc (.cells #[.int .i64 a, .int .i64 b, .int .i64 c] 25)) (tmO t 27)
  rw [show (w.alloc (.cells #[.int .i64 a, .int .i64 b, .int .i64 c] 25)).heap.size = w.heap.size + 1 by simp] at hTv
  have kk := ((Below.refl w.heap.size w).alloc (Nat.le_refl _) (.cells #[.int .i64 a, .int .i64 b, .int .i64 c] 25)).alloc (by simp) (tmO t 27)
  cases h1 : planB a b c
  · have H1 := Lib.hid h1
    clear h1
    rw [Bool.false_and]
    go_enter Tryd.func9, Tryd.ntmps9
    go_wp2_with fail
    go_at_call 23; refine (right_any _ _ _ _).mono ?_; rw [H1.out]; rintro e w1 ⟨rfl, hb⟩
    replace hPv := b_block hb hPv (lt_of_block hPv); replace hTv := b_block hb hTv (lt_of_block hTv); replace kk := kk.trans (hb.mono kk.size); clear hb
    go_wp2
    go_ret
    exact ⟨rfl, kk⟩
  have H1 := Lib.hid h1
  clear h1
  cases h2 : numB t
  · have H2 := Lib.hid h2
    clear h2
    rw [Bool.false_and, Bool.true_and]
    go_enter Tryd.func9, Tryd.ntmps9
    go_wp2_with fail
    go_at_call 23; refine (right_any _ _ _ _).mono ?_; rw [H1.out]; rintro e w1 ⟨rfl, hb⟩
    replace hPv := b_block hb hPv (lt_of_block hPv); replace hTv := b_block hb hTv (lt_of_block hTv); replace kk := kk.trans (hb.mono kk.size); clear hb
    obtain ⟨t0, t1, t2, t3, t4, t5, t6, t7⟩ := eight_cells (t := t) hTv
    go_wp2_with fail
    go_at_call 24; refine (numbers_any _ _).mono ?_; rw [H2.out]; rintro e w2 ⟨rfl, hb⟩
    replace hPv := b_block hb hPv (lt_of_block hPv); replace hTv := b_block hb hTv (lt_of_block hTv); replace kk := kk.trans (hb.mono kk.size); clear hb t0 t1 t2 t3 t4 t5 t6 t7
    go_wp2
    go_ret
    exact ⟨rfl, kk⟩
  have H2 := Lib.hid h2
  clear h2
  cases h3 : putB a b c t
  · have H3 := Lib.hid h3
    clear h3
    rw [Bool.false_and, Bool.true_and, Bool.true_and]
    go_enter Tryd.func9, Tryd.ntmps9
    go_wp2_with fail
    go_at_call 23; refine (right_any _ _ _ _).mono ?_; rw [H1.out]; rintro e w1 ⟨rfl, hb⟩
    replace hPv := b_block hb hPv (lt_of_block hPv); replace hTv := b_block hb hTv (lt_of_block hTv); replace kk := kk.trans (hb.mono kk.size); clear hb
    obtain ⟨t0, t1, t2, t3, t4, t5, t6, t7⟩ := eight_cells (t := t) hTv
    go_wp2_with fail
    go_at_call 24; refine (numbers_any _ _).mono ?_; rw [H2.out]; rintro e w2 ⟨rfl, hb⟩
    replace hPv := b_block hb hPv (lt_of_block hPv); replace hTv := b_block hb hTv (lt_of_block hTv); replace kk := kk.trans (hb.mono kk.size); clear hb t0 t1 t2 t3 t4 t5 t6 t7
    obtain ⟨v0, v1, v2, _, _, _⟩ := three hPv
    obtain ⟨t0, t1, t2, t3, t4, t5, t6, t7⟩ := eight_cells (t := t) hTv
    go_wp2_with fail
    go_at_call 25; refine (place_any _ _ _ _ _).mono ?_; rw [H3.out]; rintro e w3 ⟨rfl, hb⟩
    replace hPv := b_block hb hPv (lt_of_block hPv); replace hTv := b_block hb hTv (lt_of_block hTv); replace kk := kk.trans (hb.mono kk.size); clear hb t0 t1 t2 t3 t4 t5 t6 t7 v0 v1 v2
    go_wp2
    go_ret
    exact ⟨rfl, kk⟩
  have H3 := Lib.hid h3
  clear h3
  rw [Bool.true_and, Bool.true_and, Bool.true_and]
  go_enter Tryd.func9, Tryd.ntmps9
  go_wp2_with fail
  go_at_call 23; refine (right_any _ _ _ _).mono ?_; rw [H1.out]; rintro e w1 ⟨rfl, hb⟩
  replace hPv := b_block hb hPv (lt_of_block hPv); replace hTv := b_block hb hTv (lt_of_block hTv); replace kk := kk.trans (hb.mono kk.size); clear hb
  obtain ⟨t0, t1, t2, t3, t4, t5, t6, t7⟩ := eight_cells (t := t) hTv
  go_wp2_with fail
  go_at_call 24; refine (numbers_any _ _).mono ?_; rw [H2.out]; rintro e w2 ⟨rfl, hb⟩
  replace hPv := b_block hb hPv (lt_of_block hPv); replace hTv := b_block hb hTv (lt_of_block hTv); replace kk := kk.trans (hb.mono kk.size); clear hb t0 t1 t2 t3 t4 t5 t6 t7
  obtain ⟨v0, v1, v2, _, _, _⟩ := three hPv
  obtain ⟨t0, t1, t2, t3, t4, t5, t6, t7⟩ := eight_cells (t := t) hTv
  go_wp2_with fail
  go_at_call 25; refine (place_any _ _ _ _ _).mono ?_; rw [H3.out]; rintro e w3 ⟨rfl, hb⟩
  replace hPv := b_block hb hPv (lt_of_block hPv); replace hTv := b_block hb hTv (lt_of_block hTv); replace kk := kk.trans (hb.mono kk.size); clear hb t0 t1 t2 t3 t4 t5 t6 t7 v0 v1 v2
  obtain ⟨t0, t1, t2, t3, t4, t5, t6, t7⟩ := eight_cells (t := t) hTv
  go_wp2_with fail
  go_at_call 26; refine (next_any _ _).mono ?_; rintro e w4 ⟨rfl, hb⟩
  replace hPv := b_block hb hPv (lt_of_block hPv); replace hTv := b_block hb hTv (lt_of_block hTv); replace kk := kk.trans (hb.mono kk.size); clear hb t0 t1 t2 t3 t4 t5 t6 t7
  go_wp2
  go_ret
  exact ⟨rfl, kk⟩

end Go.Proofs.YthhpnepcfpapcaaDoor
