/-
  The exact laws on timers, told what the program's own functions answer.
-/
import Derived.Test.YthhpnepcfpapcaaTimerOk
import Derived.Test.YthhpnepcfpapcaaToPlan
import Derived.Test.YthhpnepcfpapcaaFlat
import Derived.Test.YthhpnepcfpapcaaFrame
namespace Go.Proofs.Ythhpnepcfpapcaa
open Go.ChangeShapes Go.WideShapes Go.ChangeAt Go.RowKit Go.Joins
set_option linter.unusedVariables false

/-- what the program's TimerOk, InHeap, Passes are to answer -/
def AsksT (fn : FuncId) : Prop := ∀ (a b c : Int) (t : Tm) (w : World), Calls Try.prog fn #[.agg #[.int .i64 a, .int .i64 b, .int .i64 c], tmV t] w fun e w' => e = .returned (.bool (timerB a b c t)) ∧ Below w.heap.size w w'
def AsksS (fn : FuncId) : Prop := ∀ (s : Int) (w : World), Calls Try.prog fn #[.int .i64 s] w fun e w' => e = .returned (.bool (inHeapB s)) ∧ Below w.heap.size w w'
def AsksP (fn : FuncId) : Prop := ∀ (a b : Int) (w : World), Calls Try.prog fn #[.int .i64 a, .int .i64 b] w fun e w' => e = .returned (.bool (passB a b)) ∧ Below w.heap.size w w'

set_option maxHeartbeats 400000 in
theorem toTimer_any (t : Tm) (w : World) :
    Calls Try.prog 7 #[tmV t] w fun e w' => e = .returned (tmV t) ∧ Below w.heap.size w w' := by
  go_enter Try.func7, Try.ntmps7
  go_wp2
  exact bodyPost_ret (v := tmV t) (by simp [results, Try.results7, go_sem]) rfl ⟨rfl, (((Below.refl _ _).alloc (Nat.le_refl _) _).alloc (by simp) _).alloc (by simp; omega) _⟩
theorem spTimerOk_any (a b c : Int) (t : Tm) (w : World) :
    Calls Try.prog 5 #[.agg #[.int .i64 a, .int .i64 b, .int .i64 c], tmV t] w fun e w' => e = .returned (.bool (timerB a b c t)) ∧ Below w.heap.size w w' :=
  spTimerOk_eight a b c t.st t.wh t.nx t.pe t.pl t.ge t.ki t.ma w

theorem cellsPlanLaw : Try.prog.cellsOf 23 = 3 := by kernel_rfl
set_option maxRecDepth 100000 in
/-- a plan of three numbers, opened -/
theorem open_plan {H : Type} {enc : TypeId × Value → H} {W : World} {base : Nat} {sp : Nat → Bool} {hd : Bool} {v : Value} {d : DataW H} {p : List MemPlace}
    (hv : Value.okWide Try.prog W .any base 23 v) (h : DataW.Trod enc Try.prog W 0 sp hd 23 v d p) :
    ∃ a b c : Int, v = .agg #[.int .i64 a, .int .i64 b, .int .i64 c] ∧ d = .agg (numsD [a, b, c]) ∧ p = [] ∧ ∀ z ∈ [a, b, c], (Lit.int .i64 z).wf = true := by
  obtain ⟨zs, hl, rfl, rfl, rfl, hw⟩ := open_flat Try.underlying23 (I := 2) (by kernel_rfl) Try.underlying2 (by kernel_rfl) (by kernel_rfl) hv h
  match zs, hl with
  | [a, b, c], _ => exact ⟨a, b, c, rfl, rfl, rfl, hw⟩
set_option maxRecDepth 100000 in
theorem shut_plan {H : Type} {enc : TypeId × Value → H} {a b c : Int} (hw : ∀ z ∈ [a, b, c], (Lit.int .i64 z).wf = true) (W' : World) (n : Nat) (sp : Nat → Bool) (hd : Bool) :
    DataW.Trod enc Try.prog W' n sp hd 23 (.agg #[.int .i64 a, .int .i64 b, .int .i64 c]) (.agg (numsD [a, b, c])) [] :=
  shut_flat (zs := [a, b, c]) Try.underlying23 (I := 2) (by kernel_rfl) Try.underlying2 (by kernel_rfl) (by kernel_rfl) rfl hw
abbrev tmL (t : Tm) : List Int := [t.st, t.wh, t.nx, t.pe, t.pl, t.ge, t.ki, t.ma]
set_option maxRecDepth 100000 in
theorem open_timer {H : Type} {enc : TypeId × Value → H} {W : World} {base : Nat} {sp : Nat → Bool} {hd : Bool} {v : Value} {d : DataW H} {p : List MemPlace}
    (hv : Value.okWide Try.prog W .any base 25 v) (h : DataW.Trod enc Try.prog W 0 sp hd 25 v d p) :
    ∃ t : Tm, v = tmV t ∧ d = .agg (numsD (tmL t)) ∧ p = [] ∧ ∀ z ∈ tmL t, (Lit.int .i64 z).wf = true := by
  obtain ⟨zs, hl, rfl, rfl, rfl, hw⟩ := open_flat Try.underlying25 (I := 2) (by kernel_rfl) Try.underlying2 (by kernel_rfl) (by kernel_rfl) hv h
  match zs, hl with
  | [a, b, c, d, e, f, g, k], _ => exact ⟨⟨a, b, c, d, e, f, g, k⟩, rfl, rfl, rfl, hw⟩
set_option maxRecDepth 100000 in
theorem shut_timer {H : Type} {enc : TypeId × Value → H} {t : Tm} (hw : ∀ z ∈ tmL t, (Lit.int .i64 z).wf = true) (W' : World) (n : Nat) (sp : Nat → Bool) (hd : Bool) :
    DataW.Trod enc Try.prog W' n sp hd 25 (tmV t) (.agg (numsD (tmL t))) [] :=
  shut_flat (zs := tmL t) Try.underlying25 (I := 2) (by kernel_rfl) Try.underlying2 (by kernel_rfl) (by kernel_rfl) rfl hw

/-! ### FnExactTimerOk -/
set_option maxRecDepth 100000 in
set_option maxHeartbeats 2000000 in
theorem exTimerOk_walk (hI : AsksT 8) (a b c : Int) (t : Tm) (w : World) :
    Calls Try.prog 3 #[.agg #[.int .i64 a, .int .i64 b, .int .i64 c], tmV t] w fun e w' => e = .returned (.bool true) ∧ Below w.heap.size w w' := by
  have K := (((Below.refl w.heap.size w).alloc (Nat.le_refl _) (.cells #[.int .i64 a, .int .i64 b, .int .i64 c] 23)).alloc (by simp) (.cells (tmCells t) 25))
  have p0 := alloc_block (.cells (tmCells t) 25) (heap_alloc_new w (.cells #[.int .i64 a, .int .i64 b, .int .i64 c] 23))
  have p1 := heap_alloc_new (w.alloc (.cells #[.int .i64 a, .int .i64 b, .int .i64 c] 23)) (.cells (tmCells t) 25)
  rw [show (w.alloc (.cells #[.int .i64 a, .int .i64 b, .int .i64 c] 23)).heap.size = w.heap.size + 1 by simp] at p1
  have l0 := lt_of_block p0
  have l1 := lt_of_block p1
  have kk := (Below.refl ((w.alloc (.cells #[.int .i64 a, .int .i64 b, .int .i64 c] 23)).alloc (.cells (tmCells t) 25)).heap.size ((w.alloc (.cells #[.int .i64 a, .int .i64 b, .int .i64 c] 23)).alloc (.cells (tmCells t) 25))).drew
  go_enter Try.func3, Try.ntmps3
  go_wp2_with fail
  go_region_held3 (fun w' => w'.cell? ⟨w.heap.size, 0, none⟩ = some (.int .i64 a) ∧ w'.cell? ⟨w.heap.size, 1, none⟩ = some (.int .i64 b) ∧ w'.cell? ⟨w.heap.size, 2, none⟩ = some (.int .i64 c) ∧ w'.cell? ⟨w.heap.size + 1, 0, none⟩ = some (.int .i64 t.st) ∧ w'.cell? ⟨w.heap.size + 1, 1, none⟩ = some (.int .i64 t.wh) ∧ w'.cell? ⟨w.heap.size + 1, 2, none⟩ = some (.int .i64 t.nx) ∧ w'.cell? ⟨w.heap.size + 1, 3, none⟩ = some (.int .i64 t.pe) ∧ w'.cell? ⟨w.heap.size + 1, 4, none⟩ = some (.int .i64 t.pl) ∧ w'.cell? ⟨w.heap.size + 1, 5, none⟩ = some (.int .i64 t.ge) ∧ w'.cell? ⟨w.heap.size + 1, 6, none⟩ = some (.int .i64 t.ki) ∧ w'.cell? ⟨w.heap.size + 1, 7, none⟩ = some (.int .i64 t.ma))
    (exact ⟨(kk.cell (p := ⟨w.heap.size, 0, none⟩) l0).trans (cell_of_block p0 0), (kk.cell (p := ⟨w.heap.size, 1, none⟩) l0).trans (cell_of_block p0 1), (kk.cell (p := ⟨w.heap.size, 2, none⟩) l0).trans (cell_of_block p0 2), (kk.cell (p := ⟨w.heap.size + 1, 0, none⟩) l1).trans (cell_of_block p1 0), (kk.cell (p := ⟨w.heap.size + 1, 1, none⟩) l1).trans (cell_of_block p1 1), (kk.cell (p := ⟨w.heap.size + 1, 2, none⟩) l1).trans (cell_of_block p1 2), (kk.cell (p := ⟨w.heap.size + 1, 3, none⟩) l1).trans (cell_of_block p1 3), (kk.cell (p := ⟨w.heap.size + 1, 4, none⟩) l1).trans (cell_of_block p1 4), (kk.cell (p := ⟨w.heap.size + 1, 5, none⟩) l1).trans (cell_of_block p1 5), (kk.cell (p := ⟨w.heap.size + 1, 6, none⟩) l1).trans (cell_of_block p1 6), (kk.cell (p := ⟨w.heap.size + 1, 7, none⟩) l1).trans (cell_of_block p1 7)⟩)
    (first
      | (go_at_call 6; refine (toPlan_any _ _ _ _).mono ?_; rintro e w1 ⟨rfl, hb⟩; replace kk := kk.trans (hb.mono kk.size); clear hb)
      | (go_at_call 7; refine (toTimer_any _ _).mono ?_; rintro e w1 ⟨rfl, hb⟩; replace kk := kk.trans (hb.mono kk.size); clear hb)
      | (go_at_call 5; refine (spTimerOk_any _ _ _ _ _).mono ?_; rintro e w1 ⟨rfl, hb⟩; replace kk := kk.trans (hb.mono kk.size); clear hb))
  all_goals
    replace kk := kk.drew
    go_wp2_with fail
    go_region_held3 (fun w' => w'.cell? ⟨w.heap.size, 0, none⟩ = some (.int .i64 a) ∧ w'.cell? ⟨w.heap.size, 1, none⟩ = some (.int .i64 b) ∧ w'.cell? ⟨w.heap.size, 2, none⟩ = some (.int .i64 c) ∧ w'.cell? ⟨w.heap.size + 1, 0, none⟩ = some (.int .i64 t.st) ∧ w'.cell? ⟨w.heap.size + 1, 1, none⟩ = some (.int .i64 t.wh) ∧ w'.cell? ⟨w.heap.size + 1, 2, none⟩ = some (.int .i64 t.nx) ∧ w'.cell? ⟨w.heap.size + 1, 3, none⟩ = some (.int .i64 t.pe) ∧ w'.cell? ⟨w.heap.size + 1, 4, none⟩ = some (.int .i64 t.pl) ∧ w'.cell? ⟨w.heap.size + 1, 5, none⟩ = some (.int .i64 t.ge) ∧ w'.cell? ⟨w.heap.size + 1, 6, none⟩ = some (.int .i64 t.ki) ∧ w'.cell? ⟨w.heap.size + 1, 7, none⟩ = some (.int .i64 t.ma))
      (exact ⟨(kk.cell (p := ⟨w.heap.size, 0, none⟩) l0).trans (cell_of_block p0 0), (kk.cell (p := ⟨w.heap.size, 1, none⟩) l0).trans (cell_of_block p0 1), (kk.cell (p := ⟨w.heap.size, 2, none⟩) l0).trans (cell_of_block p0 2), (kk.cell (p := ⟨w.heap.size + 1, 0, none⟩) l1).trans (cell_of_block p1 0), (kk.cell (p := ⟨w.heap.size + 1, 1, none⟩) l1).trans (cell_of_block p1 1), (kk.cell (p := ⟨w.heap.size + 1, 2, none⟩) l1).trans (cell_of_block p1 2), (kk.cell (p := ⟨w.heap.size + 1, 3, none⟩) l1).trans (cell_of_block p1 3), (kk.cell (p := ⟨w.heap.size + 1, 4, none⟩) l1).trans (cell_of_block p1 4), (kk.cell (p := ⟨w.heap.size + 1, 5, none⟩) l1).trans (cell_of_block p1 5), (kk.cell (p := ⟨w.heap.size + 1, 6, none⟩) l1).trans (cell_of_block p1 6), (kk.cell (p := ⟨w.heap.size + 1, 7, none⟩) l1).trans (cell_of_block p1 7)⟩)
      (first
        | (go_at_call 6; refine (toPlan_any _ _ _ _).mono ?_; rintro e w1 ⟨rfl, hb⟩; replace kk := kk.trans (hb.mono kk.size); clear hb)
        | (go_at_call 7; refine (toTimer_any _ _).mono ?_; rintro e w1 ⟨rfl, hb⟩; replace kk := kk.trans (hb.mono kk.size); clear hb)
        | (go_at_call 8; refine (hI _ _ _ _ _).mono ?_; rintro e w1 ⟨rfl, hb⟩; replace kk := kk.trans (hb.mono kk.size); clear hb))
    all_goals
      go_wp2
      go_ret
      exact ⟨rfl, K.trans (kk.mono K.size)⟩

set_option maxRecDepth 100000 in
theorem exTimerOk_lifted (hI : AsksT 8) (os : Os) (started : os.Started) (H : Type) (enc : TypeId × Value → H) :
    ReturnsInHanded {} Try.checked os 3 .any (Rows.fnExactTimerOkSpec.pre6 enc Try.prog Try.f3 Rows.fnExactTimerOkRow.domain false) (Rows.fnExactTimerOkSpec.post enc Try.prog Try.f3 false true false false) := by
  refine returnsInHanded_of_change (C := Try.checked) own started (by kernel_rfl) Try.func3
    (ChangeSpec.witness6 (enc := enc) (C := Try.checked) false ⟨#[], #[.agg #[.int .i64 0, .int .i64 0, .int .i64 0], .agg #[.int .i64 0, .int .i64 0, .int .i64 0, .int .i64 0, .int .i64 0, .int .i64 0, .int .i64 0, .int .i64 0]], []⟩ 8 (by kernel_rfl) (by kernel_rfl) (by kernel_rfl) (by kernel_rfl)) ?_
  intro W base args ds gs before hval0 hW _ _
  have hval : ∀ (j : Nat) t v, Try.f3.params[j]? = some t → args[j]? = some v → Value.okWide Try.prog W .any base t v := hval0
  have hW' := hW
  obtain ⟨p, q, hA0, hV, rfl, _, _⟩ := hW
  have hA : DataW.TrodAll enc Try.prog W 0 (fun _ => true) true Try.f3.params.toList args.toList ds p := hA0
  rw [Try.params3] at hA hval
  obtain ⟨v0, v1, d0, d1, p0, p1, rfl, rfl, rfl, h0, h1⟩ := trodAll_two hA
  obtain ⟨rfl, rfl⟩ := trodVars_none hV
  obtain ⟨a, b, c, rfl, rfl, rfl, wp⟩ := open_plan (hval 0 23 v0 rfl rfl) h0
  obtain ⟨t, rfl, rfl, rfl, wt⟩ := open_timer (hval 1 25 v1 rfl rfl) h1
  clear hA0 hval0
  simp only [List.append_nil] at hW'
  refine (exTimerOk_walk hI a b c t W).mono fun e W' ⟨he, hb⟩ => ?_
  subst he
  exact ⟨_, rfl, post_low (pa := []) (pv := []) hW' (fun _ _ _ => trodAll_mk1 (shut_bool Try.underlying4 _)) (fun sp _ => trodAll_mk2 (shut_plan wp W' 0 sp true) (shut_timer wt W' 0 sp true)) (fun _ _ => rfl) rfl hb⟩

theorem exTimerOk_holds (hI : AsksT 8) : Rows.FnExactTimerOkSaid :=
  OpenClaim.holds_of_wide 3 Try.f3 rfl rfl rfl rfl rfl rfl rfl ⟨rfl, rfl, rfl, rfl, rfl⟩ rfl rfl rfl rfl rfl (by kernel_rfl) Try.func3 (by kernel_rfl)
    (of_decide_eq_true (by kernel_rfl)) (by unfold Func.isWrapper; rw [if_neg (of_decide_eq_false (by kernel_rfl))]; exact ⟨rfl, rfl⟩)
    (fun os started H enc _ => exTimerOk_lifted hI os started H enc)

/-! ### FnExactInHeap -/
set_option maxHeartbeats 400000 in
theorem exInHeap_walk (hI : AsksS 10) (s : Int) (w : World) :
    Calls Try.prog 4 #[.int .i64 s] w fun e w' => e = .returned (.bool true) ∧ Below w.heap.size w w' := by
  go_enter Try.func4, Try.ntmps4
  go_wp2_with fail
  go_at_call 9; refine (spInHeap_any _ _).mono ?_; rintro e w1 ⟨rfl, rfl⟩
  go_wp2_with fail
  go_at_call 10; refine (hI _ _).mono ?_; rintro e w1 ⟨rfl, hb⟩
  go_wp2
  go_ret
  exact ⟨rfl, hb⟩

set_option maxRecDepth 100000 in
theorem exInHeap_lifted (hI : AsksS 10) (os : Os) (started : os.Started) (H : Type) (enc : TypeId × Value → H) :
    ReturnsInHanded {} Try.checked os 4 .any (Rows.fnExactInHeapSpec.pre6 enc Try.prog Try.f4 Rows.fnExactInHeapRow.domain false) (Rows.fnExactInHeapSpec.post enc Try.prog Try.f4 false true false false) := by
  refine returnsInHanded_of_change (C := Try.checked) own started (by kernel_rfl) Try.func4
    (ChangeSpec.witness6 (enc := enc) (C := Try.checked) false ⟨#[], #[.int .i64 0], []⟩ 8 (by kernel_rfl) (by kernel_rfl) (by kernel_rfl) (by kernel_rfl)) ?_
  intro W base args ds gs before hval0 hW _ _
  have hval : ∀ (j : Nat) t v, Try.f4.params[j]? = some t → args[j]? = some v → Value.okWide Try.prog W .any base t v := hval0
  have hW' := hW
  obtain ⟨p, q, hA0, hV, rfl, _, _⟩ := hW
  have hA : DataW.TrodAll enc Try.prog W 0 (fun _ => true) true Try.f4.params.toList args.toList ds p := hA0
  rw [Try.params4] at hA hval
  obtain ⟨v0, d0, rfl, rfl, h0⟩ := trodAll_one hA
  obtain ⟨rfl, rfl⟩ := trodVars_none hV
  obtain ⟨s, rfl, rfl, rfl, ws⟩ := open_int Try.underlying2 (hval 0 2 v0 rfl rfl) h0
  clear hA0 hval0
  simp only [List.append_nil] at hW'
  refine (exInHeap_walk hI s W).mono fun e W' ⟨he, hb⟩ => ?_
  subst he
  exact ⟨_, rfl, post_low (pa := []) (pv := []) hW' (fun _ _ _ => trodAll_mk1 (shut_bool Try.underlying4 _)) (fun sp _ => trodAll_mk1 (shut_int Try.underlying2 ws)) (fun _ _ => rfl) rfl hb⟩

theorem exInHeap_holds (hI : AsksS 10) : Rows.FnExactInHeapSaid :=
  OpenClaim.holds_of_wide 4 Try.f4 rfl rfl rfl rfl rfl rfl rfl ⟨rfl, rfl, rfl, rfl, rfl⟩ rfl rfl rfl rfl rfl (by kernel_rfl) Try.func4 (by kernel_rfl)
    (of_decide_eq_true (by kernel_rfl)) (by unfold Func.isWrapper; rw [if_neg (of_decide_eq_false (by kernel_rfl))]; exact ⟨rfl, rfl⟩)
    (fun os started H enc _ => exInHeap_lifted hI os started H enc)

/-! ### FnExactPasses -/
end Go.Proofs.Ythhpnepcfpapcaa
