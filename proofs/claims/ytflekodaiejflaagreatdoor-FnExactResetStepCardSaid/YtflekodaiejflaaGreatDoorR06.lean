/-
  Timers, in the program: the place that a status wants; is a timer right?
-/
import Derived.Test.YtflekodaiejflaaGreatDoorR05
import Derived.Test.YtflekodaiejflaaGreatDoorR02
namespace Go.Proofs.YtflekodaiejflaaGreatDoor
open Go.RowKit Go.Joins
set_option linter.unusedVariables false
set_option linter.unusedSimpArgs false

set_option maxRecDepth 100000 in
set_option maxHeartbeats 4000000 in
theorem place_eight (a b c st wh nx pe pl ge ki ma : Int) (w : World) :
    Calls Tryz.prog 152 #[.agg #[.int .i64 st, .int .i64 wh, .int .i64 nx, .int .i64 pe, .int .i64 pl, .int .i64 ge, .int .i64 ki, .int .i64 ma], .agg #[.int .i64 a, .int .i64 b, .int .i64 c]] w fun e w' => e = .returned (.bool (putB a b c ⟨st, wh, nx, pe, pl, ge, ki, ma⟩)) ∧ Below w.heap.size w w' := by
  have K := ((Below.refl w.heap.size w).alloc (Nat.le_refl _) (.cells #[.int .i64 st, .int .i64 wh, .int .i64 nx, .int .i64 pe, .int .i64 pl, .int .i64 ge, .int .i64 ki, .int .i64 ma] 80)).alloc (by simp) (.cells #[.int .i64 a, .int .i64 b, .int .i64 c] 46)
  have p0 := alloc_block (.cells #[.int .i64 a, .int .i64 b, .int .i64 c] 46) (heap_alloc_new w (.cells #[.int .i64 st, .int .i64 wh, .int .i64 nx, .int .i64 pe, .int .i64 pl, .int .i64 ge, .int .i64 ki, .int .i64 ma] 80))
  have p1 := heap_alloc_new (w.alloc (.cells #[.int .i64 st, .int .i64 wh, .int .i64 nx, .int .i64 pe, .int .i64 pl, .int .i64 ge, .int .i64 ki, .int .i64 ma] 80)) (.cells #[.int .i64 a, .int .i64 b, .int .i64 c] 46)
  rw [show (w.alloc (.cells #[.int .i64 st, .int .i64 wh, .int .i64 nx, .int .i64 pe, .int .i64 pl, .int .i64 ge, .int .i64 ki, .int .i64 ma] 80)).heap.size = w.heap.size + 1 by simp] at p1
  have l0 := lt_of_block p0
  have l1 := lt_of_block p1
  have kk := (Below.refl ((w.alloc (.cells #[.int .i64 st, .int .i64 wh, .int .i64 nx, .int .i64 pe, .int .i64 pl, .int .i64 ge, .int .i64 ki, .int .i64 ma] 80)).alloc (.cells #[.int .i64 a, .int .i64 b, .int .i64 c] 46)).heap.size ((w.alloc (.cells #[.int .i64 st, .int .i64 wh, .int .i64 nx, .int .i64 pe, .int .i64 pl, .int .i64 ge, .int .i64 ki, .int .i64 ma] 80)).alloc (.cells #[.int .i64 a, .int .i64 b, .int .i64 c] 46))).drew
  by_cases h2 : st = 2
  · subst h2
    cases hp : procB a b c pl
    · have HP := Lib.hid hp
      by_cases h1 : pl = -1
      · subst h1
        rw [show putB a b c ⟨2, wh, nx, pe, -1, ge, ki, ma⟩ = true by simp [putB]]
        clear hp
        go_enter Tryz.func152, Tryz.ntmps152
        go_wp2_with fail
        go_region_held3 (fun w' => w'.cell? ⟨w.heap.size, 4, none⟩ = some (.int .i64 (-1)) ∧ w'.cell? ⟨w.heap.size + 1, 0, none⟩ = some (.int .i64 a) ∧ w'.cell? ⟨w.heap.size + 1, 1, none⟩ = some (.int .i64 b) ∧ w'.cell? ⟨w.heap.size + 1, 2, none⟩ = some (.int .i64 c))
          (exact ⟨(kk.cell (p := ⟨w.heap.size, 4, none⟩) l0).trans (cell_of_block p0 4), (kk.cell (p := ⟨w.heap.size + 1, 0, none⟩) l1).trans (cell_of_block p1 0), (kk.cell (p := ⟨w.heap.size + 1, 1, none⟩) l1).trans (cell_of_block p1 1), (kk.cell (p := ⟨w.heap.size + 1, 2, none⟩) l1).trans (cell_of_block p1 2)⟩)
          (first | (go_at_call 162; refine (hasProc_any _ _ _ _ _).mono ?_; rw [HP.out]; rintro e w1 ⟨rfl, hb⟩; replace kk := kk.trans (hb.mono kk.size); clear hb))
        all_goals
          go_wp2_with (first
            | (go_at_call 163; refine (stInHeap_any _ _).mono ?_; rintro e w' ⟨rfl, rfl⟩)
            | (go_at_call 164; refine (known_any _ _).mono ?_; rintro e w' ⟨rfl, rfl⟩))
          go_ret
          exact ⟨ret_bool' (by simp), K.trans (kk.mono K.size)⟩
      · have b1 : (pl == -1) = false := by simpa using h1
        rw [show putB a b c ⟨2, wh, nx, pe, pl, ge, ki, ma⟩ = false by simp [putB, hp, h1]]
        clear hp h1
        go_enter Tryz.func152, Tryz.ntmps152
        go_wp2_with fail
        go_region_held3 (fun w' => w'.cell? ⟨w.heap.size, 4, none⟩ = some (.int .i64 pl) ∧ w'.cell? ⟨w.heap.size + 1, 0, none⟩ = some (.int .i64 a) ∧ w'.cell? ⟨w.heap.size + 1, 1, none⟩ = some (.int .i64 b) ∧ w'.cell? ⟨w.heap.size + 1, 2, none⟩ = some (.int .i64 c))
          (exact ⟨(kk.cell (p := ⟨w.heap.size, 4, none⟩) l0).trans (cell_of_block p0 4), (kk.cell (p := ⟨w.heap.size + 1, 0, none⟩) l1).trans (cell_of_block p1 0), (kk.cell (p := ⟨w.heap.size + 1, 1, none⟩) l1).trans (cell_of_block p1 1), (kk.cell (p := ⟨w.heap.size + 1, 2, none⟩) l1).trans (cell_of_block p1 2)⟩)
          (first | (go_at_call 162; refine (hasProc_any _ _ _ _ _).mono ?_; rw [HP.out]; rintro e w1 ⟨rfl, hb⟩; replace kk := kk.trans (hb.mono kk.size); clear hb))
        all_goals
          go_wp2_with (first
            | (go_at_call 163; refine (stInHeap_any _ _).mono ?_; rintro e w' ⟨rfl, rfl⟩)
            | (go_at_call 164; refine (known_any _ _).mono ?_; rintro e w' ⟨rfl, rfl⟩))
          go_ret
          exact ⟨ret_bool' (by simp), K.trans (kk.mono K.size)⟩
    · have HP := Lib.hid hp
      rw [show putB a b c ⟨2, wh, nx, pe, pl, ge, ki, ma⟩ = true by simp [putB, hp]]
      clear hp
      go_enter Tryz.func152, Tryz.ntmps152
      go_wp2_with fail
      go_region_held3 (fun w' => w'.cell? ⟨w.heap.size, 4, none⟩ = some (.int .i64 pl) ∧ w'.cell? ⟨w.heap.size + 1, 0, none⟩ = some (.int .i64 a) ∧ w'.cell? ⟨w.heap.size + 1, 1, none⟩ = some (.int .i64 b) ∧ w'.cell? ⟨w.heap.size + 1, 2, none⟩ = some (.int .i64 c))
        (exact ⟨(kk.cell (p := ⟨w.heap.size, 4, none⟩) l0).trans (cell_of_block p0 4), (kk.cell (p := ⟨w.heap.size + 1, 0, none⟩) l1).trans (cell_of_block p1 0), (kk.cell (p := ⟨w.heap.size + 1, 1, none⟩) l1).trans (cell_of_block p1 1), (kk.cell (p := ⟨w.heap.size + 1, 2, none⟩) l1).trans (cell_of_block p1 2)⟩)
        (first | (go_at_call 162; refine (hasProc_any _ _ _ _ _).mono ?_; rw [HP.out]; rintro e w1 ⟨rfl, hb⟩; replace kk := kk.trans (hb.mono kk.size); clear hb))
      all_goals
        go_wp2_with (first
          | (go_at_call 163; refine (stInHeap_any _ _).mono ?_; rintro e w' ⟨rfl, rfl⟩)
          | (go_at_call 164; refine (known_any _ _).mono ?_; rintro e w' ⟨rfl, rfl⟩))
        go_ret
        exact ⟨ret_bool' (by simp), K.trans (kk.mono K.size)⟩
  have b2 : (st == 2) = false := by simpa using h2
  cases hi : inHeapB st
  · cases hk : inB st 0 7
    · rw [show putB a b c ⟨st, wh, nx, pe, pl, ge, ki, ma⟩ = false by simp [putB, h2, hi, hk]]
      clear h2
      go_enter Tryz.func152, Tryz.ntmps152
      go_wp2_with fail
      go_region_held3 (fun w' => w'.cell? ⟨w.heap.size, 4, none⟩ = some (.int .i64 pl) ∧ w'.cell? ⟨w.heap.size + 1, 0, none⟩ = some (.int .i64 a) ∧ w'.cell? ⟨w.heap.size + 1, 1, none⟩ = some (.int .i64 b) ∧ w'.cell? ⟨w.heap.size + 1, 2, none⟩ = some (.int .i64 c))
        (exact ⟨(kk.cell (p := ⟨w.heap.size, 4, none⟩) l0).trans (cell_of_block p0 4), (kk.cell (p := ⟨w.heap.size + 1, 0, none⟩) l1).trans (cell_of_block p1 0), (kk.cell (p := ⟨w.heap.size + 1, 1, none⟩) l1).trans (cell_of_block p1 1), (kk.cell (p := ⟨w.heap.size + 1, 2, none⟩) l1).trans (cell_of_block p1 2)⟩)
        (first | (go_at_call 162; refine (hasProc_any _ _ _ _ _).mono ?_; rintro e w1 ⟨rfl, hb⟩; replace kk := kk.trans (hb.mono kk.size); clear hb))
      all_goals
        go_wp2_with (first
          | (go_at_call 163; refine (stInHeap_any _ _).mono ?_; rintro e w' ⟨rfl, rfl⟩)
          | (go_at_call 164; refine (known_any _ _).mono ?_; rintro e w' ⟨rfl, rfl⟩))
        go_ret
        exact ⟨ret_bool' (by simp), K.trans (kk.mono K.size)⟩
    · by_cases h1 : pl = -1
      · subst h1
        rw [show putB a b c ⟨st, wh, nx, pe, -1, ge, ki, ma⟩ = true by simp [putB, h2, hi, hk]]
        clear h2
        go_enter Tryz.func152, Tryz.ntmps152
        go_wp2_with fail
        go_region_held3 (fun w' => w'.cell? ⟨w.heap.size, 4, none⟩ = some (.int .i64 (-1)) ∧ w'.cell? ⟨w.heap.size + 1, 0, none⟩ = some (.int .i64 a) ∧ w'.cell? ⟨w.heap.size + 1, 1, none⟩ = some (.int .i64 b) ∧ w'.cell? ⟨w.heap.size + 1, 2, none⟩ = some (.int .i64 c))
          (exact ⟨(kk.cell (p := ⟨w.heap.size, 4, none⟩) l0).trans (cell_of_block p0 4), (kk.cell (p := ⟨w.heap.size + 1, 0, none⟩) l1).trans (cell_of_block p1 0), (kk.cell (p := ⟨w.heap.size + 1, 1, none⟩) l1).trans (cell_of_block p1 1), (kk.cell (p := ⟨w.heap.size + 1, 2, none⟩) l1).trans (cell_of_block p1 2)⟩)
          (first | (go_at_call 162; refine (hasProc_any _ _ _ _ _).mono ?_; rintro e w1 ⟨rfl, hb⟩; replace kk := kk.trans (hb.mono kk.size); clear hb))
        all_goals
          go_wp2_with (first
            | (go_at_call 163; refine (stInHeap_any _ _).mono ?_; rintro e w' ⟨rfl, rfl⟩)
            | (go_at_call 164; refine (known_any _ _).mono ?_; rintro e w' ⟨rfl, rfl⟩))
          go_ret
          exact ⟨ret_bool' (by simp), K.trans (kk.mono K.size)⟩
      · have b1 : (pl == -1) = false := by simpa using h1
        rw [show putB a b c ⟨st, wh, nx, pe, pl, ge, ki, ma⟩ = false by simp [putB, h2, hi, h1]]
        clear h2 h1
        go_enter Tryz.func152, Tryz.ntmps152
        go_wp2_with fail
        go_region_held3 (fun w' => w'.cell? ⟨w.heap.size, 4, none⟩ = some (.int .i64 pl) ∧ w'.cell? ⟨w.heap.size + 1, 0, none⟩ = some (.int .i64 a) ∧ w'.cell? ⟨w.heap.size + 1, 1, none⟩ = some (.int .i64 b) ∧ w'.cell? ⟨w.heap.size + 1, 2, none⟩ = some (.int .i64 c))
          (exact ⟨(kk.cell (p := ⟨w.heap.size, 4, none⟩) l0).trans (cell_of_block p0 4), (kk.cell (p := ⟨w.heap.size + 1, 0, none⟩) l1).trans (cell_of_block p1 0), (kk.cell (p := ⟨w.heap.size + 1, 1, none⟩) l1).trans (cell_of_block p1 1), (kk.cell (p := ⟨w.heap.size + 1, 2, none⟩) l1).trans (cell_of_block p1 2)⟩)
          (first | (go_at_call 162; refine (hasProc_any _ _ _ _ _).mono ?_; rintro e w1 ⟨rfl, hb⟩; replace kk := kk.trans (hb.mono kk.size); clear hb))
        all_goals
          go_wp2_with (first
            | (go_at_call 163; refine (stInHeap_any _ _).mono ?_; rintro e w' ⟨rfl, rfl⟩)
            | (go_at_call 164; refine (known_any _ _).mono ?_; rintro e w' ⟨rfl, rfl⟩))
          go_ret
          exact ⟨ret_bool' (by simp), K.trans (kk.mono K.size)⟩
  · rw [show putB a b c ⟨st, wh, nx, pe, pl, ge, ki, ma⟩ = procB a b c pl by simp [putB, h2, hi]]
    clear h2
    go_enter Tryz.func152, Tryz.ntmps152
    go_wp2_with fail
    go_region_held3 (fun w' => w'.cell? ⟨w.heap.size, 4, none⟩ = some (.int .i64 pl) ∧ w'.cell? ⟨w.heap.size + 1, 0, none⟩ = some (.int .i64 a) ∧ w'.cell? ⟨w.heap.size + 1, 1, none⟩ = some (.int .i64 b) ∧ w'.cell? ⟨w.heap.size + 1, 2, none⟩ = some (.int .i64 c))
      (exact ⟨(kk.cell (p := ⟨w.heap.size, 4, none⟩) l0).trans (cell_of_block p0 4), (kk.cell (p := ⟨w.heap.size + 1, 0, none⟩) l1).trans (cell_of_block p1 0), (kk.cell (p := ⟨w.heap.size + 1, 1, none⟩) l1).trans (cell_of_block p1 1), (kk.cell (p := ⟨w.heap.size + 1, 2, none⟩) l1).trans (cell_of_block p1 2)⟩)
      (first | (go_at_call 162; refine (hasProc_any _ _ _ _ _).mono ?_; rintro e w1 ⟨rfl, hb⟩; replace kk := kk.trans (hb.mono kk.size); clear hb))
    all_goals
      go_wp2_with (first
        | (go_at_call 163; refine (stInHeap_any _ _).mono ?_; rintro e w' ⟨rfl, rfl⟩)
        | (go_at_call 164; refine (known_any _ _).mono ?_; rintro e w' ⟨rfl, rfl⟩))
      go_ret
      exact ⟨ret_bool' (by simp), K.trans (kk.mono K.size)⟩

theorem place_any (a b c : Int) (t : Tm) (w : World) :
    Calls Tryz.prog 152 #[tmV t, .agg #[.int .i64 a, .int .i64 b, .int .i64 c]] w fun e w' => e = .returned (.bool (putB a b c t)) ∧ Below w.heap.size w w' :=
  place_eight a b c t.st t.wh t.nx t.pe t.pl t.ge t.ki t.ma w

theorem timerB_eq (a b c : Int) (t : Tm) : timerB a b c t = (planB a b c && (numB t && (putB a b c t && nextB t))) := by
  have hp : (inB t.st 0 7 && placeB a b c t) = putB a b c t := by
    unfold placeB putB
    by_cases h2 : t.st = 2
    · simp [h2, inHeapB, inB, Bool.or_comm]
    · cases hi : inHeapB t.st
      · have b2 : (t.st == 2) = false := by simpa using h2
        simp [h2, b2]
      · have hk : inB t.st 0 7 = true := by
          simp only [inHeapB, Bool.or_eq_true, beq_iff_eq] at hi
          rw [inB_iff]; omega
        simp [h2, hk]
  rw [← hp]
  unfold timerB numB
  cases planB a b c <;> cases inB t.st 0 7 <;> simp <;> cases placeB a b c t <;> simp [Bool.and_assoc, Bool.and_comm]

set_option maxRecDepth 100000 in
set_option maxHeartbeats 4000000 in
theorem imTimerOk_any : AsksT 142 := by
  intro a b c t w
  rw [timerB_eq]
  have hPv := alloc_block (tmO t 80) (heap_alloc_new w (.cells #[.int .i64 a, .int .i64 b, .int .i64 c] 46))
  have hTv := heap_alloc_new (w.alloc (.cells #[.int .i64 a, .int .i64 b, .int .i64 c] 46)) (tmO t 80)
  rw [show (w.alloc (.cells #[.int .i64 a, .int .i64 b, .int .i64 c] 46)).heap.size = w.heap.size + 1 by simp] at hTv
  have kk := ((Below.refl w.heap.size w).alloc (Nat.le_refl _) (.cells #[.int .i64 a, .int .i64 b, .int .i64 c] 46)).alloc (by simp) (tmO t 80)
  cases h1 : planB a b c
  · have H1 := Lib.hid h1
    clear h1
    rw [Bool.false_and]
    go_enter Tryz.func142, Tryz.ntmps142
    go_wp2_with fail
    go_at_call 132; refine (right_any _ _ _ _).mono ?_; rw [H1.out]; rintro e w1 ⟨rfl, hb⟩
    replace hPv := b_block hb hPv (lt_of_block hPv); replace hTv := b_block hb hTv (lt_of_block hTv); replace kk := kk.trans (hb.mono kk.size); clear hb
    go_wp2
    go_ret
    exact ⟨rfl, kk⟩
  have H1 := Lib.hid h1
  clear h1
  cases h2 : numB t
  · have H2 := Lib.hid h2
    clear h2
    rw [Bool.false_and, Bool.true_and]
    go_enter Tryz.func142, Tryz.ntmps142
    go_wp2_with fail
    go_at_call 132; refine (right_any _ _ _ _).mono ?_; rw [H1.out]; rintro e w1 ⟨rfl, hb⟩
    replace hPv := b_block hb hPv (lt_of_block hPv); replace hTv := b_block hb hTv (lt_of_block hTv); replace kk := kk.trans (hb.mono kk.size); clear hb
    obtain ⟨t0, t1, t2, t3, t4, t5, t6, t7⟩ := eight_cells (t := t) hTv
    go_wp2_with fail
    go_at_call 151; refine (numbers_any _ _).mono ?_; rw [H2.out]; rintro e w2 ⟨rfl, hb⟩
    replace hPv := b_block hb hPv (lt_of_block hPv); replace hTv := b_block hb hTv (lt_of_block hTv); replace kk := kk.trans (hb.mono kk.size); clear hb t0 t1 t2 t3 t4 t5 t6 t7
    go_wp2
    go_ret
    exact ⟨rfl, kk⟩
  have H2 := Lib.hid h2
  clear h2
  cases h3 : putB a b c t
  · have H3 := Lib.hid h3
    clear h3
    rw [Bool.false_and, Bool.true_and, Bool.true_and]
    go_enter Tryz.func142, Tryz.ntmps142
    go_wp2_with fail
    go_at_call 132; refine (right_any _ _ _ _).mono ?_; rw [H1.out]; rintro e w1 ⟨rfl, hb⟩
    replace hPv := b_block hb hPv (lt_of_block hPv); replace hTv := b_block hb hTv (lt_of_block hTv); replace kk := kk.trans (hb.mono kk.size); clear hb
    obtain ⟨t0, t1, t2, t3, t4, t5, t6, t7⟩ := eight_cells (t := t) hTv
    go_wp2_with fail
    go_at_call 151; refine (numbers_any _ _).mono ?_; rw [H2.out]; rintro e w2 ⟨rfl, hb⟩
    replace hPv := b_block hb hPv (lt_of_block hPv); replace hTv := b_block hb hTv (lt_of_block hTv); replace kk := kk.trans (hb.mono kk.size); clear hb t0 t1 t2 t3 t4 t5 t6 t7
    obtain ⟨v0, v1, v2, _, _, _⟩ := three hPv
    obtain ⟨t0, t1, t2, t3, t4, t5, t6, t7⟩ := eight_cells (t := t) hTv
    go_wp2_with fail
    go_at_call 152; refine (place_any _ _ _ _ _).mono ?_; rw [H3.out]; rintro e w3 ⟨rfl, hb⟩
    replace hPv := b_block hb hPv (lt_of_block hPv); replace hTv := b_block hb hTv (lt_of_block hTv); replace kk := kk.trans (hb.mono kk.size); clear hb t0 t1 t2 t3 t4 t5 t6 t7 v0 v1 v2
    go_wp2
    go_ret
    exact ⟨rfl, kk⟩
  have H3 := Lib.hid h3
  clear h3
  rw [Bool.true_and, Bool.true_and, Bool.true_and]
  go_enter Tryz.func142, Tryz.ntmps142
  go_wp2_with fail
  go_at_call 132; refine (right_any _ _ _ _).mono ?_; rw [H1.out]; rintro e w1 ⟨rfl, hb⟩
  replace hPv := b_block hb hPv (lt_of_block hPv); replace hTv := b_block hb hTv (lt_of_block hTv); replace kk := kk.trans (hb.mono kk.size); clear hb
  obtain ⟨t0, t1, t2, t3, t4, t5, t6, t7⟩ := eight_cells (t := t) hTv
  go_wp2_with fail
  go_at_call 151; refine (numbers_any _ _).mono ?_; rw [H2.out]; rintro e w2 ⟨rfl, hb⟩
  replace hPv := b_block hb hPv (lt_of_block hPv); replace hTv := b_block hb hTv (lt_of_block hTv); replace kk := kk.trans (hb.mono kk.size); clear hb t0 t1 t2 t3 t4 t5 t6 t7
  obtain ⟨v0, v1, v2, _, _, _⟩ := three hPv
  obtain ⟨t0, t1, t2, t3, t4, t5, t6, t7⟩ := eight_cells (t := t) hTv
  go_wp2_with fail
  go_at_call 152; refine (place_any _ _ _ _ _).mono ?_; rw [H3.out]; rintro e w3 ⟨rfl, hb⟩
  replace hPv := b_block hb hPv (lt_of_block hPv); replace hTv := b_block hb hTv (lt_of_block hTv); replace kk := kk.trans (hb.mono kk.size); clear hb t0 t1 t2 t3 t4 t5 t6 t7 v0 v1 v2
  obtain ⟨t0, t1, t2, t3, t4, t5, t6, t7⟩ := eight_cells (t := t) hTv
  go_wp2_with fail
  go_at_call 153; refine (next_any _ _).mono ?_; rintro e w4 ⟨rfl, hb⟩
  replace hPv := b_block hb hPv (lt_of_block hPv); replace hTv := b_block hb hTv (lt_of_block hTv); replace kk := kk.trans (hb.mono kk.size); clear hb t0 t1 t2 t3 t4 t5 t6 t7
  go_wp2
  go_ret
  exact ⟨rfl, kk⟩

end Go.Proofs.YtflekodaiejflaaGreatDoor

/-
  A memory as the program works with it (chapter 5): do all parts agree; are all parts right; is it right?
-/
namespace Go.Proofs.YtflekodaiejflaaGreatDoor
open Go.RowKit Go.Joins
set_option linter.unusedVariables false
set_option linter.unusedSimpArgs false

/-- does a processor agree with the timers, as the program asks it? -/
def agreeX (M : Me) (k : Nat) : Bool := allB (fun i => slotOkB M k ((M.p k).f i)) (M.p k).n && ((M.p k).d == delsF M (M.p k).f (M.p k).n && allB (fun i => !ovB (M.p k).e (M.t (((M.p k).f i).1).toNat)) (M.p k).n)

set_option maxRecDepth 100000 in
set_option maxHeartbeats 8000000 in
theorem agrees_any {mb : Nat} {a b c : Int} {M : Me} {w : World} (hs : sizeM M ≤ 1048576) (h : SeenAt w mb a b c M) (hpl : ∀ i, i < M.tn → (M.t i).pl = -1 ∨ 0 ≤ (M.t i).pl ∧ (M.t i).pl < (M.pn : Int)) :
    Calls Tryz.prog 131 #[ptrV mb] w fun e w' => e = .returned (.bool (allB (agreeX M) M.pn && allB (placeOkB M) M.tn)) ∧ Below w.heap.size w w' := by
  obtain ⟨htn, hpn, hsl, hns⟩ := sizeM_le hs
  have HS := Lib.hid h
  have HNS := Lib.hid hns
  have HPLA := Lib.hid (fun (W : World) (hW : Below w.heap.size w W) => placesAgree_any hs (h.below hW) hpl)
  obtain ⟨tv, pv, hM0, hT0, hP0⟩ := h
  obtain ⟨ta, tc, htv⟩ := hT0.form
  obtain ⟨qa, qc, hpv⟩ := hP0.form
  subst htv hpv
  have lM0 := lt_of_block hM0
  have HP0 := Lib.hid hP0
  obtain ⟨n0, n1, n2, n3, n4, n5⟩ := six hM0
  clear hns hsl hM0 hP0 hT0
  go_enter Tryz.func131, Tryz.ntmps131
  go_wp2_with fail
  clear n0 n1 n2 n3 n4 n5
  go_loopw [10] (fun i wr => ∃ q : Nat, q ≤ M.pn ∧ i = .int .i64 q ∧ Hid (allB (agreeX M) q = true) ∧ Below w.heap.size w wr) (fun i _ => M.pn - (intOf i).toNat)
  case atStart => exact ⟨0, Nat.zero_le _, rfl, Lib.hid rfl, Below.refl _ _⟩
  case round =>
    obtain ⟨k, hk, rfl, hok, kw⟩ := hrel
    by_cases hlt : k < M.pn
    · rcases HP0.out with ⟨h0, _⟩ | ⟨pb, po, pcap, ev, hpb, hpc⟩
      · omega
      injection ev with ev1 ev2 ev3
      subst ev1 ev3
      have i1 : (k : Int) < (M.pn : Int) := by omega
      have i0 : (0 : Int) ≤ (k : Int) := by omega
      have hnk := HNS.out k hlt
      obtain ⟨xa, xc, p0, p1, p2, p3, hrow⟩ := hpc k hlt
      replace p0 := (kw.cell (p := ⟨pb, po + k * 4, none⟩) hpb).trans p0
      replace p1 := (kw.cell (p := ⟨pb, po + k * 4 + 1, none⟩) hpb).trans p1
      replace p2 := (kw.cell (p := ⟨pb, po + k * 4 + 2, none⟩) hpb).trans p2
      replace p3 := (kw.cell (p := ⟨pb, po + k * 4 + 3, none⟩) hpb).trans p3
      have ks := kw.alloc kw.size (pxB (.slice xa (M.p k).n xc) (M.p k).l (M.p k).e (M.p k).d)
      have hX := heap_alloc_new wr (pxB (.slice xa (M.p k).n xc) (M.p k).l (M.p k).e (M.p k).d)
      have lX := lt_of_block hX
      obtain ⟨x0, x1, x2, x3, _, _, _, _⟩ := four hX
      clear hX hpc
      cases h1 : allB (fun i => slotOkB M k ((M.p k).f i)) (M.p k).n
      · have HBAD := Lib.hid (show allB (agreeX M) M.pn = false from allB_bad (i := k) (by unfold agreeX; rw [h1]; rfl) _ hlt)
        have H1 := Lib.hid h1
        clear h1
        obtain ⟨C, hC⟩ : ∃ C : World → Prop, ∀ w', C w' ↔ (w'.cell? ⟨wr.heap.size, 0, none⟩ = some (.int .i64 (M.p k).l) ∧ w'.cell? ⟨wr.heap.size, 1, none⟩ = some (.slice xa (M.p k).n xc) ∧ w'.cell? ⟨wr.heap.size, 2, none⟩ = some (.int .i64 (M.p k).e) ∧ w'.cell? ⟨wr.heap.size, 3, none⟩ = some (.int .i64 (M.p k).d) ∧ Below ((wr.alloc (pxB (.slice xa (M.p k).n xc) (M.p k).l (M.p k).e (M.p k).d))).heap.size ((wr.alloc (pxB (.slice xa (M.p k).n xc) (M.p k).l (M.p k).e (M.p k).d))) w') := ⟨_, fun _ => Iff.rfl⟩
        have HCin := Lib.hid (show ∀ w', Below ((wr.alloc (pxB (.slice xa (M.p k).n xc) (M.p k).l (M.p k).e (M.p k).d))).heap.size ((wr.alloc (pxB (.slice xa (M.p k).n xc) (M.p k).l (M.p k).e (M.p k).d))) w' → C w' from fun w' kd => (hC w').2 ⟨(kd.cell (p := ⟨wr.heap.size, 0, none⟩) lX).trans x0, (kd.cell (p := ⟨wr.heap.size, 1, none⟩) lX).trans x1, (kd.cell (p := ⟨wr.heap.size, 2, none⟩) lX).trans x2, (kd.cell (p := ⟨wr.heap.size, 3, none⟩) lX).trans x3, kd⟩)
        have HC := Lib.hid hC
        have HFn0 : ∀ W : World, Below ((wr.alloc (pxB (.slice xa (M.p k).n xc) (M.p k).l (M.p k).e (M.p k).d))).heap.size ((wr.alloc (pxB (.slice xa (M.p k).n xc) (M.p k).l (M.p k).e (M.p k).d))) W → Calls Tryz.prog 144 #[ptrV mb, .int .i64 (k : Int), .slice xa (M.p k).n xc] W (fun e w'' => e = .returned (.bool false) ∧ Below W.heap.size W w'') := fun W hW => by have := slotsAgree_any htn (HS.out.below (ks.trans (hW.mono ks.size))) (k : Int) hnk (hrow.below (ks.trans (hW.mono ks.size))); rw [H1.out] at this; exact this
        have HCall0 := Lib.hid (show ∀ w', C w' → Calls Tryz.prog 144 #[ptrV mb, .int .i64 (k : Int), .slice xa (M.p k).n xc] w' (fun e w'' => e = .returned (.bool false) ∧ C w'') from fun w' hw' => (HFn0 w' ((HC.out w').1 hw').2.2.2.2).mono (fun e w'' hx => ⟨hx.1, HCin.out _ ((((HC.out w').1 hw').2.2.2.2).trans (hx.2.mono (((HC.out w').1 hw').2.2.2.2).size))⟩))
        clear hC HFn0
        go_wp2_with fail
        refine region_quietC (C := C) (by kernel_rfl) (by kernel_rfl) (HCin.out _ (Below.refl _ _).drew) ?_
        repeat (first
          | go_big_quiet_skip
          | (go_big_quiet_want; go_big_quiet_op; go_big_quiet_on)
          | (refine quiet_take (v := ?_) (by rfl) ?_ ?_
             rotate_left
             · intro w' hw'
               obtain ⟨q0, q1, q2, q3, hbel⟩ := (HC.out w').1 hw'
               go_simp
               first
                 | done
                 | exact rfl
                 | exact HCall0.out w' hw'
             simp only [Act.put, List.setIfInBounds_toArray, List.set_cons_zero, List.set_cons_succ]))
        refine wpQuiet_nil ?_
        intro wq hwq
        obtain ⟨q0, q1, q2, q3, kd⟩ := (HC.out wq).1 hwq
        clear hwq HCall0 HC HCin
        go_wp2
        go_ret
        exact ⟨ret_bool' (by rw [HBAD.out]; rfl), ks.trans (kd.mono ks.size)⟩
      have H1 := Lib.hid h1
      have HIDS := Lib.hid (show ∀ i, i < (M.p k).n → hasT M ((M.p k).f i).1 = true from fun i hi => by have := allB_at h1 i hi; simp only [slotOkB, Bool.and_eq_true] at this; exact this.1)
      obtain ⟨y, hy⟩ : ∃ y : Int, delsF M (M.p k).f (M.p k).n = y := ⟨_, rfl⟩
      have HY := Lib.hid hy
      clear hy h1
      cases h2 : (M.p k).d == y
      · have hd : ((M.p k).d != y) = true := by rw [bne, h2]; rfl
        have HBAD := Lib.hid (show allB (agreeX M) M.pn = false from allB_bad (i := k) (by unfold agreeX; rw [HY.out, h2, Bool.false_and, Bool.and_false]) _ hlt)
        obtain ⟨C, hC⟩ : ∃ C : World → Prop, ∀ w', C w' ↔ (w'.cell? ⟨wr.heap.size, 0, none⟩ = some (.int .i64 (M.p k).l) ∧ w'.cell? ⟨wr.heap.size, 1, none⟩ = some (.slice xa (M.p k).n xc) ∧ w'.cell? ⟨wr.heap.size, 2, none⟩ = some (.int .i64 (M.p k).e) ∧ w'.cell? ⟨wr.heap.size, 3, none⟩ = some (.int .i64 (M.p k).d) ∧ Below ((wr.alloc (pxB (.slice xa (M.p k).n xc) (M.p k).l (M.p k).e (M.p k).d))).heap.size ((wr.alloc (pxB (.slice xa (M.p k).n xc) (M.p k).l (M.p k).e (M.p k).d))) w') := ⟨_, fun _ => Iff.rfl⟩
        have HCin := Lib.hid (show ∀ w', Below ((wr.alloc (pxB (.slice xa (M.p k).n xc) (M.p k).l (M.p k).e (M.p k).d))).heap.size ((wr.alloc (pxB (.slice xa (M.p k).n xc) (M.p k).l (M.p k).e (M.p k).d))) w' → C w' from fun w' kd => (hC w').2 ⟨(kd.cell (p := ⟨wr.heap.size, 0, none⟩) lX).trans x0, (kd.cell (p := ⟨wr.heap.size, 1, none⟩) lX).trans x1, (kd.cell (p := ⟨wr.heap.size, 2, none⟩) lX).trans x2, (kd.cell (p := ⟨wr.heap.size, 3, none⟩) lX).trans x3, kd⟩)
        have HC := Lib.hid hC
        have HFn0 : ∀ W : World, Below ((wr.alloc (pxB (.slice xa (M.p k).n xc) (M.p k).l (M.p k).e (M.p k).d))).heap.size ((wr.alloc (pxB (.slice xa (M.p k).n xc) (M.p k).l (M.p k).e (M.p k).d))) W → Calls Tryz.prog 144 #[ptrV mb, .int .i64 (k : Int), .slice xa (M.p k).n xc] W (fun e w'' => e = .returned (.bool true) ∧ Below W.heap.size W w'') := fun W hW => by have := slotsAgree_any htn (HS.out.below (ks.trans (hW.mono ks.size))) (k : Int) hnk (hrow.below (ks.trans (hW.mono ks.size))); rw [H1.out] at this; exact this
        have HCall0 := Lib.hid (show ∀ w', C w' → Calls Tryz.prog 144 #[ptrV mb, .int .i64 (k : Int), .slice xa (M.p k).n xc] w' (fun e w'' => e = .returned (.bool true) ∧ C w'') from fun w' hw' => (HFn0 w' ((HC.out w').1 hw').2.2.2.2).mono (fun e w'' hx => ⟨hx.1, HCin.out _ ((((HC.out w').1 hw').2.2.2.2).trans (hx.2.mono (((HC.out w').1 hw').2.2.2.2).size))⟩))
        have HFn1 : ∀ W : World, Below ((wr.alloc (pxB (.slice xa (M.p k).n xc) (M.p k).l (M.p k).e (M.p k).d))).heap.size ((wr.alloc (pxB (.slice xa (M.p k).n xc) (M.p k).l (M.p k).e (M.p k).d))) W → Calls Tryz.prog 145 #[ptrV mb, .slice xa (M.p k).n xc] W (fun e w'' => e = .returned (.int .i64 y) ∧ Below W.heap.size W w'') := fun W hW => by have := deletedOf_any htn (HS.out.below (ks.trans (hW.mono ks.size))) hnk (hrow.below (ks.trans (hW.mono ks.size))) HIDS.out; rw [HY.out] at this; exact this
        have HCall1 := Lib.hid (show ∀ w', C w' → Calls Tryz.prog 145 #[ptrV mb, .slice xa (M.p k).n xc] w' (fun e w'' => e = .returned (.int .i64 y) ∧ C w'') from fun w' hw' => (HFn1 w' ((HC.out w').1 hw').2.2.2.2).mono (fun e w'' hx => ⟨hx.1, HCin.out _ ((((HC.out w').1 hw').2.2.2.2).trans (hx.2.mono (((HC.out w').1 hw').2.2.2.2).size))⟩))
        clear hC HFn0 HFn1
        go_wp2_with fail
        refine region_quietC (C := C) (by kernel_rfl) (by kernel_rfl) (HCin.out _ (Below.refl _ _).drew) ?_
        repeat (first
          | go_big_quiet_skip
          | (go_big_quiet_want; go_big_quiet_op; go_big_quiet_on)
          | (refine quiet_take (v := ?_) (by rfl) ?_ ?_
             rotate_left
             · intro w' hw'
               obtain ⟨q0, q1, q2, q3, hbel⟩ := (HC.out w').1 hw'
               go_simp
               first
                 | done
                 | exact rfl
                 | exact HCall0.out w' hw'
                 | exact HCall1.out w' hw'
             simp only [Act.put, List.setIfInBounds_toArray, List.set_cons_zero, List.set_cons_succ]))
        refine wpQuiet_nil ?_
        intro wq hwq
        obtain ⟨q0, q1, q2, q3, kd⟩ := (HC.out wq).1 hwq
        clear hwq HCall0 HCall1 HC HCin
        go_wp2
        go_ret
        exact ⟨ret_bool' (by rw [HBAD.out]; rfl), ks.trans (kd.mono ks.size)⟩
      have hd : ((M.p k).d != y) = false := by rw [bne, h2]; rfl
      cases h3 : allB (fun i => !ovB (M.p k).e (M.t (((M.p k).f i).1).toNat)) (M.p k).n
      · have HBAD := Lib.hid (show allB (agreeX M) M.pn = false from allB_bad (i := k) (by unfold agreeX; rw [h3, Bool.and_false, Bool.and_false]) _ hlt)
        have H3 := Lib.hid h3
        clear h3
        obtain ⟨C, hC⟩ : ∃ C : World → Prop, ∀ w', C w' ↔ (w'.cell? ⟨wr.heap.size, 0, none⟩ = some (.int .i64 (M.p k).l) ∧ w'.cell? ⟨wr.heap.size, 1, none⟩ = some (.slice xa (M.p k).n xc) ∧ w'.cell? ⟨wr.heap.size, 2, none⟩ = some (.int .i64 (M.p k).e) ∧ w'.cell? ⟨wr.heap.size, 3, none⟩ = some (.int .i64 (M.p k).d) ∧ Below ((wr.alloc (pxB (.slice xa (M.p k).n xc) (M.p k).l (M.p k).e (M.p k).d))).heap.size ((wr.alloc (pxB (.slice xa (M.p k).n xc) (M.p k).l (M.p k).e (M.p k).d))) w') := ⟨_, fun _ => Iff.rfl⟩
        have HCin := Lib.hid (show ∀ w', Below ((wr.alloc (pxB (.slice xa (M.p k).n xc) (M.p k).l (M.p k).e (M.p k).d))).heap.size ((wr.alloc (pxB (.slice xa (M.p k).n xc) (M.p k).l (M.p k).e (M.p k).d))) w' → C w' from fun w' kd => (hC w').2 ⟨(kd.cell (p := ⟨wr.heap.size, 0, none⟩) lX).trans x0, (kd.cell (p := ⟨wr.heap.size, 1, none⟩) lX).trans x1, (kd.cell (p := ⟨wr.heap.size, 2, none⟩) lX).trans x2, (kd.cell (p := ⟨wr.heap.size, 3, none⟩) lX).trans x3, kd⟩)
        have HC := Lib.hid hC
        have HFn0 : ∀ W : World, Below ((wr.alloc (pxB (.slice xa (M.p k).n xc) (M.p k).l (M.p k).e (M.p k).d))).heap.size ((wr.alloc (pxB (.slice xa (M.p k).n xc) (M.p k).l (M.p k).e (M.p k).d))) W → Calls Tryz.prog 144 #[ptrV mb, .int .i64 (k : Int), .slice xa (M.p k).n xc] W (fun e w'' => e = .returned (.bool true) ∧ Below W.heap.size W w'') := fun W hW => by have := slotsAgree_any htn (HS.out.below (ks.trans (hW.mono ks.size))) (k : Int) hnk (hrow.below (ks.trans (hW.mono ks.size))); rw [H1.out] at this; exact this
        have HCall0 := Lib.hid (show ∀ w', C w' → Calls Tryz.prog 144 #[ptrV mb, .int .i64 (k : Int), .slice xa (M.p k).n xc] w' (fun e w'' => e = .returned (.bool true) ∧ C w'') from fun w' hw' => (HFn0 w' ((HC.out w').1 hw').2.2.2.2).mono (fun e w'' hx => ⟨hx.1, HCin.out _ ((((HC.out w').1 hw').2.2.2.2).trans (hx.2.mono (((HC.out w').1 hw').2.2.2.2).size))⟩))
        have HFn1 : ∀ W : World, Below ((wr.alloc (pxB (.slice xa (M.p k).n xc) (M.p k).l (M.p k).e (M.p k).d))).heap.size ((wr.alloc (pxB (.slice xa (M.p k).n xc) (M.p k).l (M.p k).e (M.p k).d))) W → Calls Tryz.prog 145 #[ptrV mb, .slice xa (M.p k).n xc] W (fun e w'' => e = .returned (.int .i64 y) ∧ Below W.heap.size W w'') := fun W hW => by have := deletedOf_any htn (HS.out.below (ks.trans (hW.mono ks.size))) hnk (hrow.below (ks.trans (hW.mono ks.size))) HIDS.out; rw [HY.out] at this; exact this
        have HCall1 := Lib.hid (show ∀ w', C w' → Calls Tryz.prog 145 #[ptrV mb, .slice xa (M.p k).n xc] w' (fun e w'' => e = .returned (.int .i64 y) ∧ C w'') from fun w' hw' => (HFn1 w' ((HC.out w').1 hw').2.2.2.2).mono (fun e w'' hx => ⟨hx.1, HCin.out _ ((((HC.out w').1 hw').2.2.2.2).trans (hx.2.mono (((HC.out w').1 hw').2.2.2.2).size))⟩))
        have HFn2 : ∀ W : World, Below ((wr.alloc (pxB (.slice xa (M.p k).n xc) (M.p k).l (M.p k).e (M.p k).d))).heap.size ((wr.alloc (pxB (.slice xa (M.p k).n xc) (M.p k).l (M.p k).e (M.p k).d))) W → Calls Tryz.prog 146 #[ptrV mb, pxV (.slice xa (M.p k).n xc) (M.p k).l (M.p k).e (M.p k).d] W (fun e w'' => e = .returned (.bool false) ∧ Below W.heap.size W w'') := fun W hW => by have := earliestAgrees_any htn (HS.out.below (ks.trans (hW.mono ks.size))) (M.p k).l (M.p k).e (M.p k).d hnk (hrow.below (ks.trans (hW.mono ks.size))) HIDS.out; rw [H3.out] at this; exact this
        have HCall2 := Lib.hid (show ∀ w', C w' → Calls Tryz.prog 146 #[ptrV mb, pxV (.slice xa (M.p k).n xc) (M.p k).l (M.p k).e (M.p k).d] w' (fun e w'' => e = .returned (.bool false) ∧ C w'') from fun w' hw' => (HFn2 w' ((HC.out w').1 hw').2.2.2.2).mono (fun e w'' hx => ⟨hx.1, HCin.out _ ((((HC.out w').1 hw').2.2.2.2).trans (hx.2.mono (((HC.out w').1 hw').2.2.2.2).size))⟩))
        clear hC HFn0 HFn1 HFn2
        go_wp2_with fail
        refine region_quietC (C := C) (by kernel_rfl) (by kernel_rfl) (HCin.out _ (Below.refl _ _).drew) ?_
        repeat (first
          | go_big_quiet_skip
          | (go_big_quiet_want; go_big_quiet_op; go_big_quiet_on)
          | (refine quiet_take (v := ?_) (by rfl) ?_ ?_
             rotate_left
             · intro w' hw'
               obtain ⟨q0, q1, q2, q3, hbel⟩ := (HC.out w').1 hw'
               go_simp
               first
                 | done
                 | exact rfl
                 | exact HCall0.out w' hw'
                 | exact HCall1.out w' hw'
                 | exact HCall2.out w' hw'
             simp only [Act.put, List.setIfInBounds_toArray, List.set_cons_zero, List.set_cons_succ]))
        refine wpQuiet_nil ?_
        intro wq hwq
        obtain ⟨q0, q1, q2, q3, kd⟩ := (HC.out wq).1 hwq
        clear hwq HCall0 HCall1 HCall2 HC HCin
        go_wp2
        go_ret
        exact ⟨ret_bool' (by rw [HBAD.out]; rfl), ks.trans (kd.mono ks.size)⟩
      · have HN := Lib.hid (show allB (agreeX M) (k + 1) = true by rw [allB, hok.out, Bool.true_and]; unfold agreeX; rw [H1.out, HY.out, h2, h3]; rfl)
        have H3 := Lib.hid h3
        clear h3
        obtain ⟨C, hC⟩ : ∃ C : World → Prop, ∀ w', C w' ↔ (w'.cell? ⟨wr.heap.size, 0, none⟩ = some (.int .i64 (M.p k).l) ∧ w'.cell? ⟨wr.heap.size, 1, none⟩ = some (.slice xa (M.p k).n xc) ∧ w'.cell? ⟨wr.heap.size, 2, none⟩ = some (.int .i64 (M.p k).e) ∧ w'.cell? ⟨wr.heap.size, 3, none⟩ = some (.int .i64 (M.p k).d) ∧ Below ((wr.alloc (pxB (.slice xa (M.p k).n xc) (M.p k).l (M.p k).e (M.p k).d))).heap.size ((wr.alloc (pxB (.slice xa (M.p k).n xc) (M.p k).l (M.p k).e (M.p k).d))) w') := ⟨_, fun _ => Iff.rfl⟩
        have HCin := Lib.hid (show ∀ w', Below ((wr.alloc (pxB (.slice xa (M.p k).n xc) (M.p k).l (M.p k).e (M.p k).d))).heap.size ((wr.alloc (pxB (.slice xa (M.p k).n xc) (M.p k).l (M.p k).e (M.p k).d))) w' → C w' from fun w' kd => (hC w').2 ⟨(kd.cell (p := ⟨wr.heap.size, 0, none⟩) lX).trans x0, (kd.cell (p := ⟨wr.heap.size, 1, none⟩) lX).trans x1, (kd.cell (p := ⟨wr.heap.size, 2, none⟩) lX).trans x2, (kd.cell (p := ⟨wr.heap.size, 3, none⟩) lX).trans x3, kd⟩)
        have HC := Lib.hid hC
        have HFn0 : ∀ W : World, Below ((wr.alloc (pxB (.slice xa (M.p k).n xc) (M.p k).l (M.p k).e (M.p k).d))).heap.size ((wr.alloc (pxB (.slice xa (M.p k).n xc) (M.p k).l (M.p k).e (M.p k).d))) W → Calls Tryz.prog 144 #[ptrV mb, .int .i64 (k : Int), .slice xa (M.p k).n xc] W (fun e w'' => e = .returned (.bool true) ∧ Below W.heap.size W w'') := fun W hW => by have := slotsAgree_any htn (HS.out.below (ks.trans (hW.mono ks.size))) (k : Int) hnk (hrow.below (ks.trans (hW.mono ks.size))); rw [H1.out] at this; exact this
        have HCall0 := Lib.hid (show ∀ w', C w' → Calls Tryz.prog 144 #[ptrV mb, .int .i64 (k : Int), .slice xa (M.p k).n xc] w' (fun e w'' => e = .returned (.bool true) ∧ C w'') from fun w' hw' => (HFn0 w' ((HC.out w').1 hw').2.2.2.2).mono (fun e w'' hx => ⟨hx.1, HCin.out _ ((((HC.out w').1 hw').2.2.2.2).trans (hx.2.mono (((HC.out w').1 hw').2.2.2.2).size))⟩))
        have HFn1 : ∀ W : World, Below ((wr.alloc (pxB (.slice xa (M.p k).n xc) (M.p k).l (M.p k).e (M.p k).d))).heap.size ((wr.alloc (pxB (.slice xa (M.p k).n xc) (M.p k).l (M.p k).e (M.p k).d))) W → Calls Tryz.prog 145 #[ptrV mb, .slice xa (M.p k).n xc] W (fun e w'' => e = .returned (.int .i64 y) ∧ Below W.heap.size W w'') := fun W hW => by have := deletedOf_any htn (HS.out.below (ks.trans (hW.mono ks.size))) hnk (hrow.below (ks.trans (hW.mono ks.size))) HIDS.out; rw [HY.out] at this; exact this
        have HCall1 := Lib.hid (show ∀ w', C w' → Calls Tryz.prog 145 #[ptrV mb, .slice xa (M.p k).n xc] w' (fun e w'' => e = .returned (.int .i64 y) ∧ C w'') from fun w' hw' => (HFn1 w' ((HC.out w').1 hw').2.2.2.2).mono (fun e w'' hx => ⟨hx.1, HCin.out _ ((((HC.out w').1 hw').2.2.2.2).trans (hx.2.mono (((HC.out w').1 hw').2.2.2.2).size))⟩))
        have HFn2 : ∀ W : World, Below ((wr.alloc (pxB (.slice xa (M.p k).n xc) (M.p k).l (M.p k).e (M.p k).d))).heap.size ((wr.alloc (pxB (.slice xa (M.p k).n xc) (M.p k).l (M.p k).e (M.p k).d))) W → Calls Tryz.prog 146 #[ptrV mb, pxV (.slice xa (M.p k).n xc) (M.p k).l (M.p k).e (M.p k).d] W (fun e w'' => e = .returned (.bool true) ∧ Below W.heap.size W w'') := fun W hW => by have := earliestAgrees_any htn (HS.out.below (ks.trans (hW.mono ks.size))) (M.p k).l (M.p k).e (M.p k).d hnk (hrow.below (ks.trans (hW.mono ks.size))) HIDS.out; rw [H3.out] at this; exact this
        have HCall2 := Lib.hid (show ∀ w', C w' → Calls Tryz.prog 146 #[ptrV mb, pxV (.slice xa (M.p k).n xc) (M.p k).l (M.p k).e (M.p k).d] w' (fun e w'' => e = .returned (.bool true) ∧ C w'') from fun w' hw' => (HFn2 w' ((HC.out w').1 hw').2.2.2.2).mono (fun e w'' hx => ⟨hx.1, HCin.out _ ((((HC.out w').1 hw').2.2.2.2).trans (hx.2.mono (((HC.out w').1 hw').2.2.2.2).size))⟩))
        clear hC HFn0 HFn1 HFn2
        go_wp2_with fail
        refine region_quietC (C := C) (by kernel_rfl) (by kernel_rfl) (HCin.out _ (Below.refl _ _).drew) ?_
        repeat (first
          | go_big_quiet_skip
          | (go_big_quiet_want; go_big_quiet_op; go_big_quiet_on)
          | (refine quiet_take (v := ?_) (by rfl) ?_ ?_
             rotate_left
             · intro w' hw'
               obtain ⟨q0, q1, q2, q3, hbel⟩ := (HC.out w').1 hw'
               go_simp
               first
                 | done
                 | exact rfl
                 | exact HCall0.out w' hw'
                 | exact HCall1.out w' hw'
                 | exact HCall2.out w' hw'
             simp only [Act.put, List.setIfInBounds_toArray, List.set_cons_zero, List.set_cons_succ]))
        refine wpQuiet_nil ?_
        intro wq hwq
        obtain ⟨q0, q1, q2, q3, kd⟩ := (HC.out wq).1 hwq
        clear hwq HCall0 HCall1 HCall2 HC HCin
        have kn := ks.trans (kd.mono ks.size)
        go_wp2
        exact ⟨⟨k + 1, by omega, by go_num, HN, kn⟩, by simp only [intOf]; omega⟩
    · have hkn : k = M.pn := by omega
      have HKN := Lib.hid (show allB (agreeX M) M.pn = true by rw [← hkn]; exact hok.out)
      have hlt2 : ¬ (k : Int) < (M.pn : Int) := by omega
      clear hkn
      go_wp2_with fail
      go_at_call 147; refine (HPLA.out _ kw).mono ?_; rintro x w1 ⟨rfl, hb⟩
      go_wp2
      go_ret
      exact ⟨ret_bool' (by rw [HKN.out, Bool.true_and]), kw.trans (hb.mono kw.size)⟩

/-- is the processor k right, as the program asks it? -/
def procX (a b c : Int) (M : Me) (k : Nat) : Bool := rightB a b c (M.p k).f (M.p k).n (M.p k).l (M.p k).e (M.p k).d
set_option maxRecDepth 100000 in
set_option maxHeartbeats 8000000 in
theorem partsRight_any {mb : Nat} {a b c : Int} {M : Me} {w : World} (hs : sizeM M ≤ 1048576) (h : SeenAt w mb a b c M) :
    Calls Tryz.prog 130 #[ptrV mb] w fun e w' => e = .returned (.bool (allB (fun i => timerB a b c (M.t i)) M.tn && allB (procX a b c M) M.pn)) ∧ Below w.heap.size w w' := by
  obtain ⟨htn, hpn, hsl, hns⟩ := sizeM_le hs
  have HNS := Lib.hid hns
  obtain ⟨tv, pv, hM0, hT0, hP0⟩ := h
  obtain ⟨ta, tc, htv⟩ := hT0.form
  obtain ⟨qa, qc, hpv⟩ := hP0.form
  subst htv hpv
  have lM0 := lt_of_block hM0
  have HM0 := Lib.hid hM0
  have HP0 := Lib.hid hP0
  have HT0 := Lib.hid hT0
  obtain ⟨n0, n1, n2, n3, n4, n5⟩ := six hM0
  clear hns hsl hM0 hP0 hT0
  go_enter Tryz.func130, Tryz.ntmps130
  go_wp2_with fail
  clear n0 n1 n2 n3 n4 n5
  go_loopw [12] (fun i wr => ∃ q : Nat, q ≤ M.tn ∧ i = .int .i64 q ∧ Hid (allB (fun i => timerB a b c (M.t i)) q = true) ∧ Below w.heap.size w wr) (fun i _ => M.tn - (intOf i).toNat)
  case atStart => exact ⟨0, Nat.zero_le _, rfl, Lib.hid rfl, Below.refl _ _⟩
  case round =>
    obtain ⟨i, hi, rfl, hok, kw⟩ := hrel
    by_cases hlt : i < M.tn
    · rcases HT0.out with ⟨h0, _⟩ | ⟨tb, tof, tcap, ev, htb, htc⟩
      · omega
      injection ev with ev1 ev2 ev3
      subst ev1 ev3
      have i1 : (i : Int) < (M.tn : Int) := by omega
      have i0 : (0 : Int) ≤ (i : Int) := by omega
      obtain ⟨t0, t1, t2, t3, t4, t5, t6, t7⟩ := cells8 (w := wr) (b := tb) (o := tof + i * 8) (t := M.t i) (fun q hq => (kw.cell (p := ⟨tb, tof + i * 8 + q, none⟩) htb).trans (htc i hlt q hq))
      have ks := kw.alloc kw.size (.cells (tmCells (M.t i)) 80)
      have hSv := heap_alloc_new wr (.cells (tmCells (M.t i)) 80)
      have lS := lt_of_block hSv
      have hM := b_block ks HM0.out lM0
      have lM := lt_of_block hM
      obtain ⟨m0, m1, m2, m3, m4, m5⟩ := six hM
      obtain ⟨z0, z1, z2, z3, z4, z5, z6, z7⟩ := tm_cells hSv
      clear hSv hM htc
      cases h1 : timerB a b c (M.t i)
      · have HBAD := Lib.hid (show allB (fun i => timerB a b c (M.t i)) M.tn = false from allB_bad (i := i) h1 _ hlt)
        have H1 := Lib.hid h1
        clear h1
        obtain ⟨C, hC⟩ : ∃ C : World → Prop, ∀ w', C w' ↔ (w'.cell? ⟨mb, 0, none⟩ = some (.int .i64 a) ∧ w'.cell? ⟨mb, 1, none⟩ = some (.int .i64 b) ∧ w'.cell? ⟨mb, 2, none⟩ = some (.int .i64 c) ∧ w'.cell? ⟨wr.heap.size, 0, none⟩ = some (.int .i64 (M.t i).st) ∧ w'.cell? ⟨wr.heap.size, 1, none⟩ = some (.int .i64 (M.t i).wh) ∧ w'.cell? ⟨wr.heap.size, 2, none⟩ = some (.int .i64 (M.t i).nx) ∧ w'.cell? ⟨wr.heap.size, 3, none⟩ = some (.int .i64 (M.t i).pe) ∧ w'.cell? ⟨wr.heap.size, 4, none⟩ = some (.int .i64 (M.t i).pl) ∧ w'.cell? ⟨wr.heap.size, 5, none⟩ = some (.int .i64 (M.t i).ge) ∧ w'.cell? ⟨wr.heap.size, 6, none⟩ = some (.int .i64 (M.t i).ki) ∧ w'.cell? ⟨wr.heap.size, 7, none⟩ = some (.int .i64 (M.t i).ma) ∧ Below ((wr.alloc (.cells (tmCells (M.t i)) 80))).heap.size ((wr.alloc (.cells (tmCells (M.t i)) 80))) w') := ⟨_, fun _ => Iff.rfl⟩
        have HCin := Lib.hid (show ∀ w', Below ((wr.alloc (.cells (tmCells (M.t i)) 80))).heap.size ((wr.alloc (.cells (tmCells (M.t i)) 80))) w' → C w' from fun w' kd => (hC w').2 ⟨(kd.cell (p := ⟨mb, 0, none⟩) lM).trans m0, (kd.cell (p := ⟨mb, 1, none⟩) lM).trans m1, (kd.cell (p := ⟨mb, 2, none⟩) lM).trans m2, (kd.cell (p := ⟨wr.heap.size, 0, none⟩) lS).trans z0, (kd.cell (p := ⟨wr.heap.size, 1, none⟩) lS).trans z1, (kd.cell (p := ⟨wr.heap.size, 2, none⟩) lS).trans z2, (kd.cell (p := ⟨wr.heap.size, 3, none⟩) lS).trans z3, (kd.cell (p := ⟨wr.heap.size, 4, none⟩) lS).trans z4, (kd.cell (p := ⟨wr.heap.size, 5, none⟩) lS).trans z5, (kd.cell (p := ⟨wr.heap.size, 6, none⟩) lS).trans z6, (kd.cell (p := ⟨wr.heap.size, 7, none⟩) lS).trans z7, kd⟩)
        have HC := Lib.hid hC
        have HFn0 : ∀ W : World, Below ((wr.alloc (.cells (tmCells (M.t i)) 80))).heap.size ((wr.alloc (.cells (tmCells (M.t i)) 80))) W → Calls Tryz.prog 142 #[.agg #[.int .i64 a, .int .i64 b, .int .i64 c], tmV (M.t i)] W (fun e w'' => e = .returned (.bool false) ∧ Below W.heap.size W w'') := fun W hW => by have := imTimerOk_any a b c (M.t i) W; rw [H1.out] at this; exact this
        have HCall0 := Lib.hid (show ∀ w', C w' → Calls Tryz.prog 142 #[.agg #[.int .i64 a, .int .i64 b, .int .i64 c], tmV (M.t i)] w' (fun e w'' => e = .returned (.bool false) ∧ C w'') from fun w' hw' => (HFn0 w' ((HC.out w').1 hw').2.2.2.2.2.2.2.2.2.2.2).mono (fun e w'' hx => ⟨hx.1, HCin.out _ ((((HC.out w').1 hw').2.2.2.2.2.2.2.2.2.2.2).trans (hx.2.mono (((HC.out w').1 hw').2.2.2.2.2.2.2.2.2.2.2).size))⟩))
        clear hC HFn0
        go_wp2_with fail
        refine region_quietC (C := C) (by kernel_rfl) (by kernel_rfl) (HCin.out _ (Below.refl _ _).drew) ?_
        repeat (first
          | go_big_quiet_skip
          | (go_big_quiet_want; go_big_quiet_op; go_big_quiet_on)
          | (refine quiet_take (v := ?_) (by rfl) ?_ ?_
             rotate_left
             · intro w' hw'
               obtain ⟨q0, q1, q2, q3, q4, q5, q6, q7, q8, q9, q10, hbel⟩ := (HC.out w').1 hw'
               go_simp
               first
                 | done
                 | exact rfl
                 | exact HCall0.out w' hw'
             simp only [Act.put, List.setIfInBounds_toArray, List.set_cons_zero, List.set_cons_succ]))
        refine wpQuiet_nil ?_
        intro wq hwq
        obtain ⟨q0, q1, q2, q3, q4, q5, q6, q7, q8, q9, q10, kd⟩ := (HC.out wq).1 hwq
        clear hwq HCall0 HC HCin
        go_wp2
        go_ret
        exact ⟨ret_bool' (by rw [HBAD.out]; first | rfl | rw [Bool.and_false]), ks.trans (kd.mono ks.size)⟩
      · have HN := Lib.hid (show allB (fun i => timerB a b c (M.t i)) (i + 1) = true by rw [allB, hok.out, h1]; rfl)
        have H1 := Lib.hid h1
        clear h1
        obtain ⟨C, hC⟩ : ∃ C : World → Prop, ∀ w', C w' ↔ (w'.cell? ⟨mb, 0, none⟩ = some (.int .i64 a) ∧ w'.cell? ⟨mb, 1, none⟩ = some (.int .i64 b) ∧ w'.cell? ⟨mb, 2, none⟩ = some (.int .i64 c) ∧ w'.cell? ⟨wr.heap.size, 0, none⟩ = some (.int .i64 (M.t i).st) ∧ w'.cell? ⟨wr.heap.size, 1, none⟩ = some (.int .i64 (M.t i).wh) ∧ w'.cell? ⟨wr.heap.size, 2, none⟩ = some (.int .i64 (M.t i).nx) ∧ w'.cell? ⟨wr.heap.size, 3, none⟩ = some (.int .i64 (M.t i).pe) ∧ w'.cell? ⟨wr.heap.size, 4, none⟩ = some (.int .i64 (M.t i).pl) ∧ w'.cell? ⟨wr.heap.size, 5, none⟩ = some (.int .i64 (M.t i).ge) ∧ w'.cell? ⟨wr.heap.size, 6, none⟩ = some (.int .i64 (M.t i).ki) ∧ w'.cell? ⟨wr.heap.size, 7, none⟩ = some (.int .i64 (M.t i).ma) ∧ Below ((wr.alloc (.cells (tmCells (M.t i)) 80))).heap.size ((wr.alloc (.cells (tmCells (M.t i)) 80))) w') := ⟨_, fun _ => Iff.rfl⟩
        have HCin := Lib.hid (show ∀ w', Below ((wr.alloc (.cells (tmCells (M.t i)) 80))).heap.size ((wr.alloc (.cells (tmCells (M.t i)) 80))) w' → C w' from fun w' kd => (hC w').2 ⟨(kd.cell (p := ⟨mb, 0, none⟩) lM).trans m0, (kd.cell (p := ⟨mb, 1, none⟩) lM).trans m1, (kd.cell (p := ⟨mb, 2, none⟩) lM).trans m2, (kd.cell (p := ⟨wr.heap.size, 0, none⟩) lS).trans z0, (kd.cell (p := ⟨wr.heap.size, 1, none⟩) lS).trans z1, (kd.cell (p := ⟨wr.heap.size, 2, none⟩) lS).trans z2, (kd.cell (p := ⟨wr.heap.size, 3, none⟩) lS).trans z3, (kd.cell (p := ⟨wr.heap.size, 4, none⟩) lS).trans z4, (kd.cell (p := ⟨wr.heap.size, 5, none⟩) lS).trans z5, (kd.cell (p := ⟨wr.heap.size, 6, none⟩) lS).trans z6, (kd.cell (p := ⟨wr.heap.size, 7, none⟩) lS).trans z7, kd⟩)
        have HC := Lib.hid hC
        have HFn0 : ∀ W : World, Below ((wr.alloc (.cells (tmCells (M.t i)) 80))).heap.size ((wr.alloc (.cells (tmCells (M.t i)) 80))) W → Calls Tryz.prog 142 #[.agg #[.int .i64 a, .int .i64 b, .int .i64 c], tmV (M.t i)] W (fun e w'' => e = .returned (.bool true) ∧ Below W.heap.size W w'') := fun W hW => by have := imTimerOk_any a b c (M.t i) W; rw [H1.out] at this; exact this
        have HCall0 := Lib.hid (show ∀ w', C w' → Calls Tryz.prog 142 #[.agg #[.int .i64 a, .int .i64 b, .int .i64 c], tmV (M.t i)] w' (fun e w'' => e = .returned (.bool true) ∧ C w'') from fun w' hw' => (HFn0 w' ((HC.out w').1 hw').2.2.2.2.2.2.2.2.2.2.2).mono (fun e w'' hx => ⟨hx.1, HCin.out _ ((((HC.out w').1 hw').2.2.2.2.2.2.2.2.2.2.2).trans (hx.2.mono (((HC.out w').1 hw').2.2.2.2.2.2.2.2.2.2.2).size))⟩))
        clear hC HFn0
        go_wp2_with fail
        refine region_quietC (C := C) (by kernel_rfl) (by kernel_rfl) (HCin.out _ (Below.refl _ _).drew) ?_
        repeat (first
          | go_big_quiet_skip
          | (go_big_quiet_want; go_big_quiet_op; go_big_quiet_on)
          | (refine quiet_take (v := ?_) (by rfl) ?_ ?_
             rotate_left
             · intro w' hw'
               obtain ⟨q0, q1, q2, q3, q4, q5, q6, q7, q8, q9, q10, hbel⟩ := (HC.out w').1 hw'
               go_simp
               first
                 | done
                 | exact rfl
                 | exact HCall0.out w' hw'
             simp only [Act.put, List.setIfInBounds_toArray, List.set_cons_zero, List.set_cons_succ]))
        refine wpQuiet_nil ?_
        intro wq hwq
        obtain ⟨q0, q1, q2, q3, q4, q5, q6, q7, q8, q9, q10, kd⟩ := (HC.out wq).1 hwq
        clear hwq HCall0 HC HCin
        have kn := ks.trans (kd.mono ks.size)
        go_wp2
        exact ⟨⟨i + 1, by omega, by go_num, HN, kn⟩, by simp only [intOf]; omega⟩
    · have hin : i = M.tn := by omega
      have HTR := Lib.hid (show allB (fun i => timerB a b c (M.t i)) M.tn = true by rw [← hin]; exact hok.out)
      have hlt2 : ¬ (i : Int) < (M.tn : Int) := by omega
      have hM := b_block kw HM0.out lM0
      have lM1 := lt_of_block hM
      have HM1 := Lib.hid hM
      obtain ⟨n0, n1, n2, n3, n4, n5⟩ := six hM
      have HP1 := Lib.hid (HP0.out.below kw)
      have KW := Lib.hid kw
      clear hin hok hlt hM
      generalize wr = W1 at KW HM1 HP1 lM1 n0 n1 n2 n3 n4 n5 kw ⊢
      go_wp2_with fail
      clear n0 n1 n2 n3 n4 n5 kw
      go_loopw [29] (fun i wr => ∃ q : Nat, q ≤ M.pn ∧ i = .int .i64 q ∧ Hid (allB (procX a b c M) q = true) ∧ Below W1.heap.size W1 wr) (fun i _ => M.pn - (intOf i).toNat)
      case atStart => exact ⟨0, Nat.zero_le _, rfl, Lib.hid rfl, Below.refl _ _⟩
      case round =>
        obtain ⟨k, hk, rfl, hok, kw⟩ := hrel
        by_cases hlt : k < M.pn
        · rcases HP1.out with ⟨h0, _⟩ | ⟨pb, po, pcap, ev, hpb, hpc⟩
          · omega
          injection ev with ev1 ev2 ev3
          subst ev1 ev3
          have i1 : (k : Int) < (M.pn : Int) := by omega
          have i0 : (0 : Int) ≤ (k : Int) := by omega
          have hnk := HNS.out k hlt
          obtain ⟨xa, xc, p0, p1, p2, p3, hrow⟩ := hpc k hlt
          replace p0 := (kw.cell (p := ⟨pb, po + k * 4, none⟩) hpb).trans p0
          replace p1 := (kw.cell (p := ⟨pb, po + k * 4 + 1, none⟩) hpb).trans p1
          replace p2 := (kw.cell (p := ⟨pb, po + k * 4 + 2, none⟩) hpb).trans p2
          replace p3 := (kw.cell (p := ⟨pb, po + k * 4 + 3, none⟩) hpb).trans p3
          have ks := kw.alloc kw.size (pxB (.slice xa (M.p k).n xc) (M.p k).l (M.p k).e (M.p k).d)
          have hX := heap_alloc_new wr (pxB (.slice xa (M.p k).n xc) (M.p k).l (M.p k).e (M.p k).d)
          have lX := lt_of_block hX
          obtain ⟨x0, x1, x2, x3, _, _, _, _⟩ := four hX
          have hM := b_block ks HM1.out lM1
          have lM := lt_of_block hM
          obtain ⟨m0, m1, m2, m3, m4, m5⟩ := six hM
          clear hX hpc hM
          cases h1 : procX a b c M k
          · have HBAD := Lib.hid (show allB (procX a b c M) M.pn = false from allB_bad (i := k) h1 _ hlt)
            have H1 := Lib.hid (show rightB a b c (M.p k).f (M.p k).n (M.p k).l (M.p k).e (M.p k).d = false from h1)
            clear h1
            obtain ⟨C, hC⟩ : ∃ C : World → Prop, ∀ w', C w' ↔ (w'.cell? ⟨mb, 0, none⟩ = some (.int .i64 a) ∧ w'.cell? ⟨mb, 1, none⟩ = some (.int .i64 b) ∧ w'.cell? ⟨mb, 2, none⟩ = some (.int .i64 c) ∧ w'.cell? ⟨wr.heap.size, 0, none⟩ = some (.int .i64 (M.p k).l) ∧ w'.cell? ⟨wr.heap.size, 1, none⟩ = some (.slice xa (M.p k).n xc) ∧ w'.cell? ⟨wr.heap.size, 2, none⟩ = some (.int .i64 (M.p k).e) ∧ w'.cell? ⟨wr.heap.size, 3, none⟩ = some (.int .i64 (M.p k).d) ∧ Below ((wr.alloc (pxB (.slice xa (M.p k).n xc) (M.p k).l (M.p k).e (M.p k).d))).heap.size ((wr.alloc (pxB (.slice xa (M.p k).n xc) (M.p k).l (M.p k).e (M.p k).d))) w') := ⟨_, fun _ => Iff.rfl⟩
            have HCin := Lib.hid (show ∀ w', Below ((wr.alloc (pxB (.slice xa (M.p k).n xc) (M.p k).l (M.p k).e (M.p k).d))).heap.size ((wr.alloc (pxB (.slice xa (M.p k).n xc) (M.p k).l (M.p k).e (M.p k).d))) w' → C w' from fun w' kd => (hC w').2 ⟨(kd.cell (p := ⟨mb, 0, none⟩) lM).trans m0, (kd.cell (p := ⟨mb, 1, none⟩) lM).trans m1, (kd.cell (p := ⟨mb, 2, none⟩) lM).trans m2, (kd.cell (p := ⟨wr.heap.size, 0, none⟩) lX).trans x0, (kd.cell (p := ⟨wr.heap.size, 1, none⟩) lX).trans x1, (kd.cell (p := ⟨wr.heap.size, 2, none⟩) lX).trans x2, (kd.cell (p := ⟨wr.heap.size, 3, none⟩) lX).trans x3, kd⟩)
            have HC := Lib.hid hC
            have HFn0 : ∀ W : World, Below ((wr.alloc (pxB (.slice xa (M.p k).n xc) (M.p k).l (M.p k).e (M.p k).d))).heap.size ((wr.alloc (pxB (.slice xa (M.p k).n xc) (M.p k).l (M.p k).e (M.p k).d))) W → Calls Tryz.prog 143 #[pxV (.slice xa (M.p k).n xc) (M.p k).l (M.p k).e (M.p k).d, .agg #[.int .i64 a, .int .i64 b, .int .i64 c]] W (fun e w'' => e = .returned (.bool false) ∧ Below W.heap.size W w'') := fun W hW => by have := rightIn_any a b c (M.p k).l (M.p k).e (M.p k).d hnk (hrow.below (ks.trans (hW.mono ks.size))); rw [H1.out] at this; exact this
            have HCall0 := Lib.hid (show ∀ w', C w' → Calls Tryz.prog 143 #[pxV (.slice xa (M.p k).n xc) (M.p k).l (M.p k).e (M.p k).d, .agg #[.int .i64 a, .int .i64 b, .int .i64 c]] w' (fun e w'' => e = .returned (.bool false) ∧ C w'') from fun w' hw' => (HFn0 w' ((HC.out w').1 hw').2.2.2.2.2.2.2).mono (fun e w'' hx => ⟨hx.1, HCin.out _ ((((HC.out w').1 hw').2.2.2.2.2.2.2).trans (hx.2.mono (((HC.out w').1 hw').2.2.2.2.2.2.2).size))⟩))
            clear hC HFn0
            go_wp2_with fail
            refine region_quietC (C := C) (by kernel_rfl) (by kernel_rfl) (HCin.out _ (Below.refl _ _).drew) ?_
            repeat (first
              | go_big_quiet_skip
              | (go_big_quiet_want; go_big_quiet_op; go_big_quiet_on)
              | (refine quiet_take (v := ?_) (by rfl) ?_ ?_
                 rotate_left
                 · intro w' hw'
                   obtain ⟨q0, q1, q2, q3, q4, q5, q6, hbel⟩ := (HC.out w').1 hw'
                   go_simp
                   first
                     | done
                     | exact rfl
                     | exact HCall0.out w' hw'
                 simp only [Act.put, List.setIfInBounds_toArray, List.set_cons_zero, List.set_cons_succ]))
            refine wpQuiet_nil ?_
            intro wq hwq
            obtain ⟨q0, q1, q2, q3, q4, q5, q6, kd⟩ := (HC.out wq).1 hwq
            clear hwq HCall0 HC HCin
            have kn := ks.trans (kd.mono ks.size)
            go_wp2
            go_ret
            exact ⟨ret_bool' (by rw [HBAD.out, Bool.and_false]), KW.out.trans (kn.mono KW.out.size)⟩
          · have HN := Lib.hid (show allB (procX a b c M) (k + 1) = true by rw [allB, hok.out, h1]; rfl)
            have H1 := Lib.hid (show rightB a b c (M.p k).f (M.p k).n (M.p k).l (M.p k).e (M.p k).d = true from h1)
            clear h1
            obtain ⟨C, hC⟩ : ∃ C : World → Prop, ∀ w', C w' ↔ (w'.cell? ⟨mb, 0, none⟩ = some (.int .i64 a) ∧ w'.cell? ⟨mb, 1, none⟩ = some (.int .i64 b) ∧ w'.cell? ⟨mb, 2, none⟩ = some (.int .i64 c) ∧ w'.cell? ⟨wr.heap.size, 0, none⟩ = some (.int .i64 (M.p k).l) ∧ w'.cell? ⟨wr.heap.size, 1, none⟩ = some (.slice xa (M.p k).n xc) ∧ w'.cell? ⟨wr.heap.size, 2, none⟩ = some (.int .i64 (M.p k).e) ∧ w'.cell? ⟨wr.heap.size, 3, none⟩ = some (.int .i64 (M.p k).d) ∧ Below ((wr.alloc (pxB (.slice xa (M.p k).n xc) (M.p k).l (M.p k).e (M.p k).d))).heap.size ((wr.alloc (pxB (.slice xa (M.p k).n xc) (M.p k).l (M.p k).e (M.p k).d))) w') := ⟨_, fun _ => Iff.rfl⟩
            have HCin := Lib.hid (show ∀ w', Below ((wr.alloc (pxB (.slice xa (M.p k).n xc) (M.p k).l (M.p k).e (M.p k).d))).heap.size ((wr.alloc (pxB (.slice xa (M.p k).n xc) (M.p k).l (M.p k).e (M.p k).d))) w' → C w' from fun w' kd => (hC w').2 ⟨(kd.cell (p := ⟨mb, 0, none⟩) lM).trans m0, (kd.cell (p := ⟨mb, 1, none⟩) lM).trans m1, (kd.cell (p := ⟨mb, 2, none⟩) lM).trans m2, (kd.cell (p := ⟨wr.heap.size, 0, none⟩) lX).trans x0, (kd.cell (p := ⟨wr.heap.size, 1, none⟩) lX).trans x1, (kd.cell (p := ⟨wr.heap.size, 2, none⟩) lX).trans x2, (kd.cell (p := ⟨wr.heap.size, 3, none⟩) lX).trans x3, kd⟩)
            have HC := Lib.hid hC
            have HFn0 : ∀ W : World, Below ((wr.alloc (pxB (.slice xa (M.p k).n xc) (M.p k).l (M.p k).e (M.p k).d))).heap.size ((wr.alloc (pxB (.slice xa (M.p k).n xc) (M.p k).l (M.p k).e (M.p k).d))) W → Calls Tryz.prog 143 #[pxV (.slice xa (M.p k).n xc) (M.p k).l (M.p k).e (M.p k).d, .agg #[.int .i64 a, .int .i64 b, .int .i64 c]] W (fun e w'' => e = .returned (.bool true) ∧ Below W.heap.size W w'') := fun W hW => by have := rightIn_any a b c (M.p k).l (M.p k).e (M.p k).d hnk (hrow.below (ks.trans (hW.mono ks.size))); rw [H1.out] at this; exact this
            have HCall0 := Lib.hid (show ∀ w', C w' → Calls Tryz.prog 143 #[pxV (.slice xa (M.p k).n xc) (M.p k).l (M.p k).e (M.p k).d, .agg #[.int .i64 a, .int .i64 b, .int .i64 c]] w' (fun e w'' => e = .returned (.bool true) ∧ C w'') from fun w' hw' => (HFn0 w' ((HC.out w').1 hw').2.2.2.2.2.2.2).mono (fun e w'' hx => ⟨hx.1, HCin.out _ ((((HC.out w').1 hw').2.2.2.2.2.2.2).trans (hx.2.mono (((HC.out w').1 hw').2.2.2.2.2.2.2).size))⟩))
            clear hC HFn0
            go_wp2_with fail
            refine region_quietC (C := C) (by kernel_rfl) (by kernel_rfl) (HCin.out _ (Below.refl _ _).drew) ?_
            repeat (first
              | go_big_quiet_skip
              | (go_big_quiet_want; go_big_quiet_op; go_big_quiet_on)
              | (refine quiet_take (v := ?_) (by rfl) ?_ ?_
                 rotate_left
                 · intro w' hw'
                   obtain ⟨q0, q1, q2, q3, q4, q5, q6, hbel⟩ := (HC.out w').1 hw'
                   go_simp
                   first
                     | done
                     | exact rfl
                     | exact HCall0.out w' hw'
                 simp only [Act.put, List.setIfInBounds_toArray, List.set_cons_zero, List.set_cons_succ]))
            refine wpQuiet_nil ?_
            intro wq hwq
            obtain ⟨q0, q1, q2, q3, q4, q5, q6, kd⟩ := (HC.out wq).1 hwq
            clear hwq HCall0 HC HCin
            have kn := ks.trans (kd.mono ks.size)
            go_wp2
            exact ⟨⟨k + 1, by omega, by go_num, HN, kn⟩, by simp only [intOf]; omega⟩
        · have hkn : k = M.pn := by omega
          have HKN := Lib.hid (show allB (procX a b c M) M.pn = true by rw [← hkn]; exact hok.out)
          have hlt2 : ¬ (k : Int) < (M.pn : Int) := by omega
          clear hkn
          go_wp2
          go_ret
          exact ⟨ret_bool' (by rw [HKN.out, HTR.out]; rfl), KW.out.trans (kw.mono KW.out.size)⟩

/-- the sizes -/
def sizesX (a b c : Int) (M : Me) : Bool := planB a b c && (inB M.c 0 999999999 && (decide ((M.tn : Int) ≤ c) && (M.pn : Int) == a))
set_option maxRecDepth 100000 in
set_option maxHeartbeats 8000000 in
theorem sizesRight_any {mb : Nat} {a b c : Int} {M : Me} {w : World} (hs : sizeM M ≤ 1048576) (h : SeenAt w mb a b c M) :
    Calls Tryz.prog 129 #[ptrV mb] w fun e w' => e = .returned (.bool (sizesX a b c M)) ∧ Below w.heap.size w w' := by
  obtain ⟨htn, hpn, hsl, hns⟩ := sizeM_le hs
  obtain ⟨tv, pv, hM0, hT0, hP0⟩ := h
  obtain ⟨ta, tc, htv⟩ := hT0.form
  obtain ⟨qa, qc, hpv⟩ := hP0.form
  subst htv hpv
  have lM := lt_of_block hM0
  obtain ⟨m0, m1, m2, m3, m4, m5⟩ := six hM0
  clear hns hsl hM0 hP0 hT0
  cases hp : planB a b c
  · rw [show sizesX a b c M = false by unfold sizesX; rw [hp]; rfl]
    have HP := Lib.hid hp
    clear hp
    go_enter Tryz.func129, Tryz.ntmps129
    obtain ⟨C, hC⟩ : ∃ C : World → Prop, ∀ w', C w' ↔ (w'.cell? ⟨mb, 0, none⟩ = some (.int .i64 a) ∧ w'.cell? ⟨mb, 1, none⟩ = some (.int .i64 b) ∧ w'.cell? ⟨mb, 2, none⟩ = some (.int .i64 c) ∧ w'.cell? ⟨mb, 3, none⟩ = some (.int .i64 M.c) ∧ w'.cell? ⟨mb, 4, none⟩ = some (.slice ta M.tn tc) ∧ w'.cell? ⟨mb, 5, none⟩ = some (.slice qa M.pn qc) ∧ Below (w).heap.size (w) w') := ⟨_, fun _ => Iff.rfl⟩
    have HCin := Lib.hid (show ∀ w', Below (w).heap.size (w) w' → C w' from fun w' kd => (hC w').2 ⟨(kd.cell (p := ⟨mb, 0, none⟩) lM).trans m0, (kd.cell (p := ⟨mb, 1, none⟩) lM).trans m1, (kd.cell (p := ⟨mb, 2, none⟩) lM).trans m2, (kd.cell (p := ⟨mb, 3, none⟩) lM).trans m3, (kd.cell (p := ⟨mb, 4, none⟩) lM).trans m4, (kd.cell (p := ⟨mb, 5, none⟩) lM).trans m5, kd⟩)
    have HC := Lib.hid hC
    have HFn0 : ∀ W : World, Below (w).heap.size (w) W → Calls Tryz.prog 132 #[.agg #[.int .i64 a, .int .i64 b, .int .i64 c]] W (fun e w'' => e = .returned (.bool false) ∧ Below W.heap.size W w'') := fun W hW => by have := right_any a b c W; rw [HP.out] at this; exact this
    have HCall0 := Lib.hid (show ∀ w', C w' → Calls Tryz.prog 132 #[.agg #[.int .i64 a, .int .i64 b, .int .i64 c]] w' (fun e w'' => e = .returned (.bool false) ∧ C w'') from fun w' hw' => (HFn0 w' ((HC.out w').1 hw').2.2.2.2.2.2).mono (fun e w'' hx => ⟨hx.1, HCin.out _ ((((HC.out w').1 hw').2.2.2.2.2.2).trans (hx.2.mono (((HC.out w').1 hw').2.2.2.2.2.2).size))⟩))
    clear hC HFn0
    go_wp2_with fail
    refine region_quietC (C := C) (by kernel_rfl) (by kernel_rfl) (HCin.out _ (Below.refl _ _).drew) ?_
    repeat (first
      | go_big_quiet_skip
      | (go_big_quiet_want; go_big_quiet_op; go_big_quiet_on)
      | (refine quiet_take (v := ?_) (by rfl) ?_ ?_
         rotate_left
         · intro w' hw'
           obtain ⟨q0, q1, q2, q3, q4, q5, hbel⟩ := (HC.out w').1 hw'
           go_simp
           first
             | done
             | exact rfl
             | exact HCall0.out w' hw'
         simp only [Act.put, List.setIfInBounds_toArray, List.set_cons_zero, List.set_cons_succ]))
    refine wpQuiet_nil ?_
    intro wq hwq
    obtain ⟨q0, q1, q2, q3, q4, q5, kd⟩ := (HC.out wq).1 hwq
    clear hwq HCall0 HC HCin
    go_wp2
    go_ret
    exact ⟨rfl, kd⟩
  have HP := Lib.hid hp
  cases hc : inB M.c 0 999999999
  · rw [show sizesX a b c M = false by unfold sizesX; rw [hc, Bool.false_and, Bool.and_false]]
    have HCL := Lib.hid hc
    clear hp hc
    go_enter Tryz.func129, Tryz.ntmps129
    obtain ⟨C, hC⟩ : ∃ C : World → Prop, ∀ w', C w' ↔ (w'.cell? ⟨mb, 0, none⟩ = some (.int .i64 a) ∧ w'.cell? ⟨mb, 1, none⟩ = some (.int .i64 b) ∧ w'.cell? ⟨mb, 2, none⟩ = some (.int .i64 c) ∧ w'.cell? ⟨mb, 3, none⟩ = some (.int .i64 M.c) ∧ w'.cell? ⟨mb, 4, none⟩ = some (.slice ta M.tn tc) ∧ w'.cell? ⟨mb, 5, none⟩ = some (.slice qa M.pn qc) ∧ Below (w).heap.size (w) w') := ⟨_, fun _ => Iff.rfl⟩
    have HCin := Lib.hid (show ∀ w', Below (w).heap.size (w) w' → C w' from fun w' kd => (hC w').2 ⟨(kd.cell (p := ⟨mb, 0, none⟩) lM).trans m0, (kd.cell (p := ⟨mb, 1, none⟩) lM).trans m1, (kd.cell (p := ⟨mb, 2, none⟩) lM).trans m2, (kd.cell (p := ⟨mb, 3, none⟩) lM).trans m3, (kd.cell (p := ⟨mb, 4, none⟩) lM).trans m4, (kd.cell (p := ⟨mb, 5, none⟩) lM).trans m5, kd⟩)
    have HC := Lib.hid hC
    have HFn0 : ∀ W : World, Below (w).heap.size (w) W → Calls Tryz.prog 132 #[.agg #[.int .i64 a, .int .i64 b, .int .i64 c]] W (fun e w'' => e = .returned (.bool true) ∧ Below W.heap.size W w'') := fun W hW => by have := right_any a b c W; rw [HP.out] at this; exact this
    have HCall0 := Lib.hid (show ∀ w', C w' → Calls Tryz.prog 132 #[.agg #[.int .i64 a, .int .i64 b, .int .i64 c]] w' (fun e w'' => e = .returned (.bool true) ∧ C w'') from fun w' hw' => (HFn0 w' ((HC.out w').1 hw').2.2.2.2.2.2).mono (fun e w'' hx => ⟨hx.1, HCin.out _ ((((HC.out w').1 hw').2.2.2.2.2.2).trans (hx.2.mono (((HC.out w').1 hw').2.2.2.2.2.2).size))⟩))
    have HFn1 : ∀ W : World, Below (w).heap.size (w) W → Calls Tryz.prog 136 #[.int .i64 M.c, .int .i64 0, .int .i64 999999999] W (fun e w'' => e = .returned (.bool false) ∧ Below W.heap.size W w'') := fun W hW => (within_any M.c 0 999999999 W).mono (fun e w2 hx => by rw [HCL.out] at hx; exact ⟨hx.1, by rw [← hx.2]; exact Below.refl _ _⟩)
    have HCall1 := Lib.hid (show ∀ w', C w' → Calls Tryz.prog 136 #[.int .i64 M.c, .int .i64 0, .int .i64 999999999] w' (fun e w'' => e = .returned (.bool false) ∧ C w'') from fun w' hw' => (HFn1 w' ((HC.out w').1 hw').2.2.2.2.2.2).mono (fun e w'' hx => ⟨hx.1, HCin.out _ ((((HC.out w').1 hw').2.2.2.2.2.2).trans (hx.2.mono (((HC.out w').1 hw').2.2.2.2.2.2).size))⟩))
    clear hC HFn0 HFn1
    go_wp2_with fail
    refine region_quietC (C := C) (by kernel_rfl) (by kernel_rfl) (HCin.out _ (Below.refl _ _).drew) ?_
    repeat (first
      | go_big_quiet_skip
      | (go_big_quiet_want; go_big_quiet_op; go_big_quiet_on)
      | (refine quiet_take (v := ?_) (by rfl) ?_ ?_
         rotate_left
         · intro w' hw'
           obtain ⟨q0, q1, q2, q3, q4, q5, hbel⟩ := (HC.out w').1 hw'
           go_simp
           first
             | done
             | exact rfl
             | exact HCall0.out w' hw'
             | exact HCall1.out w' hw'
         simp only [Act.put, List.setIfInBounds_toArray, List.set_cons_zero, List.set_cons_succ]))
    refine wpQuiet_nil ?_
    intro wq hwq
    obtain ⟨q0, q1, q2, q3, q4, q5, kd⟩ := (HC.out wq).1 hwq
    clear hwq HCall0 HCall1 HC HCin
    go_wp2
    go_ret
    exact ⟨rfl, kd⟩
  have HCL := Lib.hid hc
  by_cases ht : (M.tn : Int) ≤ c
  · have bt : decide ((M.tn : Int) ≤ c) = true := by simpa using ht
    cases he : (M.pn : Int) == a
    · rw [show sizesX a b c M = false by unfold sizesX; rw [he, Bool.and_false, Bool.and_false, Bool.and_false]]
      clear hp hc
      go_enter Tryz.func129, Tryz.ntmps129
      obtain ⟨C, hC⟩ : ∃ C : World → Prop, ∀ w', C w' ↔ (w'.cell? ⟨mb, 0, none⟩ = some (.int .i64 a) ∧ w'.cell? ⟨mb, 1, none⟩ = some (.int .i64 b) ∧ w'.cell? ⟨mb, 2, none⟩ = some (.int .i64 c) ∧ w'.cell? ⟨mb, 3, none⟩ = some (.int .i64 M.c) ∧ w'.cell? ⟨mb, 4, none⟩ = some (.slice ta M.tn tc) ∧ w'.cell? ⟨mb, 5, none⟩ = some (.slice qa M.pn qc) ∧ Below (w).heap.size (w) w') := ⟨_, fun _ => Iff.rfl⟩
      have HCin := Lib.hid (show ∀ w', Below (w).heap.size (w) w' → C w' from fun w' kd => (hC w').2 ⟨(kd.cell (p := ⟨mb, 0, none⟩) lM).trans m0, (kd.cell (p := ⟨mb, 1, none⟩) lM).trans m1, (kd.cell (p := ⟨mb, 2, none⟩) lM).trans m2, (kd.cell (p := ⟨mb, 3, none⟩) lM).trans m3, (kd.cell (p := ⟨mb, 4, none⟩) lM).trans m4, (kd.cell (p := ⟨mb, 5, none⟩) lM).trans m5, kd⟩)
      have HC := Lib.hid hC
      have HFn0 : ∀ W : World, Below (w).heap.size (w) W → Calls Tryz.prog 132 #[.agg #[.int .i64 a, .int .i64 b, .int .i64 c]] W (fun e w'' => e = .returned (.bool true) ∧ Below W.heap.size W w'') := fun W hW => by have := right_any a b c W; rw [HP.out] at this; exact this
      have HCall0 := Lib.hid (show ∀ w', C w' → Calls Tryz.prog 132 #[.agg #[.int .i64 a, .int .i64 b, .int .i64 c]] w' (fun e w'' => e = .returned (.bool true) ∧ C w'') from fun w' hw' => (HFn0 w' ((HC.out w').1 hw').2.2.2.2.2.2).mono (fun e w'' hx => ⟨hx.1, HCin.out _ ((((HC.out w').1 hw').2.2.2.2.2.2).trans (hx.2.mono (((HC.out w').1 hw').2.2.2.2.2.2).size))⟩))
      have HFn1 : ∀ W : World, Below (w).heap.size (w) W → Calls Tryz.prog 136 #[.int .i64 M.c, .int .i64 0, .int .i64 999999999] W (fun e w'' => e = .returned (.bool true) ∧ Below W.heap.size W w'') := fun W hW => (within_any M.c 0 999999999 W).mono (fun e w2 hx => by rw [HCL.out] at hx; exact ⟨hx.1, by rw [← hx.2]; exact Below.refl _ _⟩)
      have HCall1 := Lib.hid (show ∀ w', C w' → Calls Tryz.prog 136 #[.int .i64 M.c, .int .i64 0, .int .i64 999999999] w' (fun e w'' => e = .returned (.bool true) ∧ C w'') from fun w' hw' => (HFn1 w' ((HC.out w').1 hw').2.2.2.2.2.2).mono (fun e w'' hx => ⟨hx.1, HCin.out _ ((((HC.out w').1 hw').2.2.2.2.2.2).trans (hx.2.mono (((HC.out w').1 hw').2.2.2.2.2.2).size))⟩))
      clear hC HFn0 HFn1
      go_wp2_with fail
      refine region_quietC (C := C) (by kernel_rfl) (by kernel_rfl) (HCin.out _ (Below.refl _ _).drew) ?_
      repeat (first
        | go_big_quiet_skip
        | (go_big_quiet_want; go_big_quiet_op; go_big_quiet_on)
        | (refine quiet_take (v := ?_) (by rfl) ?_ ?_
           rotate_left
           · intro w' hw'
             obtain ⟨q0, q1, q2, q3, q4, q5, hbel⟩ := (HC.out w').1 hw'
             go_simp
             first
               | done
               | exact rfl
               | exact HCall0.out w' hw'
               | exact HCall1.out w' hw'
           simp only [Act.put, List.setIfInBounds_toArray, List.set_cons_zero, List.set_cons_succ]))
      refine wpQuiet_nil ?_
      intro wq hwq
      obtain ⟨q0, q1, q2, q3, q4, q5, kd⟩ := (HC.out wq).1 hwq
      clear hwq HCall0 HCall1 HC HCin
      go_wp2
      go_ret
      exact ⟨rfl, kd⟩
    · rw [show sizesX a b c M = true by unfold sizesX; rw [hp, hc, bt, he]; rfl]
      clear hp hc
      go_enter Tryz.func129, Tryz.ntmps129
      obtain ⟨C, hC⟩ : ∃ C : World → Prop, ∀ w', C w' ↔ (w'.cell? ⟨mb, 0, none⟩ = some (.int .i64 a) ∧ w'.cell? ⟨mb, 1, none⟩ = some (.int .i64 b) ∧ w'.cell? ⟨mb, 2, none⟩ = some (.int .i64 c) ∧ w'.cell? ⟨mb, 3, none⟩ = some (.int .i64 M.c) ∧ w'.cell? ⟨mb, 4, none⟩ = some (.slice ta M.tn tc) ∧ w'.cell? ⟨mb, 5, none⟩ = some (.slice qa M.pn qc) ∧ Below (w).heap.size (w) w') := ⟨_, fun _ => Iff.rfl⟩
      have HCin := Lib.hid (show ∀ w', Below (w).heap.size (w) w' → C w' from fun w' kd => (hC w').2 ⟨(kd.cell (p := ⟨mb, 0, none⟩) lM).trans m0, (kd.cell (p := ⟨mb, 1, none⟩) lM).trans m1, (kd.cell (p := ⟨mb, 2, none⟩) lM).trans m2, (kd.cell (p := ⟨mb, 3, none⟩) lM).trans m3, (kd.cell (p := ⟨mb, 4, none⟩) lM).trans m4, (kd.cell (p := ⟨mb, 5, none⟩) lM).trans m5, kd⟩)
      have HC := Lib.hid hC
      have HFn0 : ∀ W : World, Below (w).heap.size (w) W → Calls Tryz.prog 132 #[.agg #[.int .i64 a, .int .i64 b, .int .i64 c]] W (fun e w'' => e = .returned (.bool true) ∧ Below W.heap.size W w'') := fun W hW => by have := right_any a b c W; rw [HP.out] at this; exact this
      have HCall0 := Lib.hid (show ∀ w', C w' → Calls Tryz.prog 132 #[.agg #[.int .i64 a, .int .i64 b, .int .i64 c]] w' (fun e w'' => e = .returned (.bool true) ∧ C w'') from fun w' hw' => (HFn0 w' ((HC.out w').1 hw').2.2.2.2.2.2).mono (fun e w'' hx => ⟨hx.1, HCin.out _ ((((HC.out w').1 hw').2.2.2.2.2.2).trans (hx.2.mono (((HC.out w').1 hw').2.2.2.2.2.2).size))⟩))
      have HFn1 : ∀ W : World, Below (w).heap.size (w) W → Calls Tryz.prog 136 #[.int .i64 M.c, .int .i64 0, .int .i64 999999999] W (fun e w'' => e = .returned (.bool true) ∧ Below W.heap.size W w'') := fun W hW => (within_any M.c 0 999999999 W).mono (fun e w2 hx => by rw [HCL.out] at hx; exact ⟨hx.1, by rw [← hx.2]; exact Below.refl _ _⟩)
      have HCall1 := Lib.hid (show ∀ w', C w' → Calls Tryz.prog 136 #[.int .i64 M.c, .int .i64 0, .int .i64 999999999] w' (fun e w'' => e = .returned (.bool true) ∧ C w'') from fun w' hw' => (HFn1 w' ((HC.out w').1 hw').2.2.2.2.2.2).mono (fun e w'' hx => ⟨hx.1, HCin.out _ ((((HC.out w').1 hw').2.2.2.2.2.2).trans (hx.2.mono (((HC.out w').1 hw').2.2.2.2.2.2).size))⟩))
      clear hC HFn0 HFn1
      go_wp2_with fail
      refine region_quietC (C := C) (by kernel_rfl) (by kernel_rfl) (HCin.out _ (Below.refl _ _).drew) ?_
      repeat (first
        | go_big_quiet_skip
        | (go_big_quiet_want; go_big_quiet_op; go_big_quiet_on)
        | (refine quiet_take (v := ?_) (by rfl) ?_ ?_
           rotate_left
           · intro w' hw'
             obtain ⟨q0, q1, q2, q3, q4, q5, hbel⟩ := (HC.out w').1 hw'
             go_simp
             first
               | done
               | exact rfl
               | exact HCall0.out w' hw'
               | exact HCall1.out w' hw'
           simp only [Act.put, List.setIfInBounds_toArray, List.set_cons_zero, List.set_cons_succ]))
      refine wpQuiet_nil ?_
      intro wq hwq
      obtain ⟨q0, q1, q2, q3, q4, q5, kd⟩ := (HC.out wq).1 hwq
      clear hwq HCall0 HCall1 HC HCin
      go_wp2
      go_ret
      exact ⟨rfl, kd⟩
  · have bt : decide ((M.tn : Int) ≤ c) = false := by simpa using ht
    rw [show sizesX a b c M = false by unfold sizesX; rw [bt, Bool.false_and, Bool.and_false, Bool.and_false]]
    clear hp hc
    go_enter Tryz.func129, Tryz.ntmps129
    obtain ⟨C, hC⟩ : ∃ C : World → Prop, ∀ w', C w' ↔ (w'.cell? ⟨mb, 0, none⟩ = some (.int .i64 a) ∧ w'.cell? ⟨mb, 1, none⟩ = some (.int .i64 b) ∧ w'.cell? ⟨mb, 2, none⟩ = some (.int .i64 c) ∧ w'.cell? ⟨mb, 3, none⟩ = some (.int .i64 M.c) ∧ w'.cell? ⟨mb, 4, none⟩ = some (.slice ta M.tn tc) ∧ w'.cell? ⟨mb, 5, none⟩ = some (.slice qa M.pn qc) ∧ Below (w).heap.size (w) w') := ⟨_, fun _ => Iff.rfl⟩
    have HCin := Lib.hid (show ∀ w', Below (w).heap.size (w) w' → C w' from fun w' kd => (hC w').2 ⟨(kd.cell (p := ⟨mb, 0, none⟩) lM).trans m0, (kd.cell (p := ⟨mb, 1, none⟩) lM).trans m1, (kd.cell (p := ⟨mb, 2, none⟩) lM).trans m2, (kd.cell (p := ⟨mb, 3, none⟩) lM).trans m3, (kd.cell (p := ⟨mb, 4, none⟩) lM).trans m4, (kd.cell (p := ⟨mb, 5, none⟩) lM).trans m5, kd⟩)
    have HC := Lib.hid hC
    have HFn0 : ∀ W : World, Below (w).heap.size (w) W → Calls Tryz.prog 132 #[.agg #[.int .i64 a, .int .i64 b, .int .i64 c]] W (fun e w'' => e = .returned (.bool true) ∧ Below W.heap.size W w'') := fun W hW => by have := right_any a b c W; rw [HP.out] at this; exact this
    have HCall0 := Lib.hid (show ∀ w', C w' → Calls Tryz.prog 132 #[.agg #[.int .i64 a, .int .i64 b, .int .i64 c]] w' (fun e w'' => e = .returned (.bool true) ∧ C w'') from fun w' hw' => (HFn0 w' ((HC.out w').1 hw').2.2.2.2.2.2).mono (fun e w'' hx => ⟨hx.1, HCin.out _ ((((HC.out w').1 hw').2.2.2.2.2.2).trans (hx.2.mono (((HC.out w').1 hw').2.2.2.2.2.2).size))⟩))
    have HFn1 : ∀ W : World, Below (w).heap.size (w) W → Calls Tryz.prog 136 #[.int .i64 M.c, .int .i64 0, .int .i64 999999999] W (fun e w'' => e = .returned (.bool true) ∧ Below W.heap.size W w'') := fun W hW => (within_any M.c 0 999999999 W).mono (fun e w2 hx => by rw [HCL.out] at hx; exact ⟨hx.1, by rw [← hx.2]; exact Below.refl _ _⟩)
    have HCall1 := Lib.hid (show ∀ w', C w' → Calls Tryz.prog 136 #[.int .i64 M.c, .int .i64 0, .int .i64 999999999] w' (fun e w'' => e = .returned (.bool true) ∧ C w'') from fun w' hw' => (HFn1 w' ((HC.out w').1 hw').2.2.2.2.2.2).mono (fun e w'' hx => ⟨hx.1, HCin.out _ ((((HC.out w').1 hw').2.2.2.2.2.2).trans (hx.2.mono (((HC.out w').1 hw').2.2.2.2.2.2).size))⟩))
    clear hC HFn0 HFn1
    go_wp2_with fail
    refine region_quietC (C := C) (by kernel_rfl) (by kernel_rfl) (HCin.out _ (Below.refl _ _).drew) ?_
    repeat (first
      | go_big_quiet_skip
      | (go_big_quiet_want; go_big_quiet_op; go_big_quiet_on)
      | (refine quiet_take (v := ?_) (by rfl) ?_ ?_
         rotate_left
         · intro w' hw'
           obtain ⟨q0, q1, q2, q3, q4, q5, hbel⟩ := (HC.out w').1 hw'
           go_simp
           first
             | done
             | exact rfl
             | exact HCall0.out w' hw'
             | exact HCall1.out w' hw'
         simp only [Act.put, List.setIfInBounds_toArray, List.set_cons_zero, List.set_cons_succ]))
    refine wpQuiet_nil ?_
    intro wq hwq
    obtain ⟨q0, q1, q2, q3, q4, q5, kd⟩ := (HC.out wq).1 hwq
    clear hwq HCall0 HCall1 HC HCin
    go_wp2
    go_ret
    exact ⟨rfl, kd⟩

end Go.Proofs.YtflekodaiejflaaGreatDoor
