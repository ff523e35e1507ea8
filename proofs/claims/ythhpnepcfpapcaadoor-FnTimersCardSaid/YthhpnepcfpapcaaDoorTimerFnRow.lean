/-
  The row of FnTimers.
-/
import Derived.Test.YthhpnepcfpapcaaDoorTimerFn
import Derived.Test.YthhpnepcfpapcaaDoorPassExact
import Derived.OpenShut
import Derived.ChangeOld
namespace Go.Proofs.YthhpnepcfpapcaaDoor
open Go.RowKit Go.Joins Go.ChangeShapes Go.WideShapes Go.ChangeAt
set_option linter.unusedVariables false

set_option maxRecDepth 100000 in
set_option maxHeartbeats 400000 in
theorem timers_big (sl : Value) (len : Nat) (w : World) (hsl : ∃ a cap, sl = .slice a len cap) (hm : len ≤ maxLen) (hlen : 4096 < len) :
    Calls Tryd.prog 3 #[sl] w fun e w' => e = .returned (.bool true) ∧ Below w.heap.size w w' := by
  unfold maxLen at hm
  obtain ⟨a, cap, rfl⟩ := hsl
  go_enter Tryd.func3, Tryd.ntmps3
  go_wp2_with (go_at_call 5; go_in)
  go_ret
  exact ⟨rfl, Below.refl _ _⟩

/-- for every code the law returns true, told what the program's functions answer -/
theorem timers_walk (hT : AsksT 9) (hS : AsksS 13) (hP : AsksP 11)
    (sl : Value) (len : Nat) (w : World) (hm : len ≤ maxLen) (hsl : ∃ a cap, sl = .slice a len cap) (hcode : CodeAt w w.heap.size sl len) (hTab : TabAt w) :
    Calls Tryd.prog 3 #[sl] w fun e w' => e = .returned (.bool true) ∧ Below w.heap.size w w' := by
  by_cases h : len ≤ 4096
  · exact timers_small hT hS hP h hsl hcode hTab
  · exact timers_big sl len w hsl hm (by omega)

set_option maxRecDepth 100000 in
theorem timers_lifted (hT : AsksT 9) (hS : AsksS 13) (hP : AsksP 11) (os : Os) (started : os.Started) (H : Type) (enc : TypeId × Value → H) :
    ReturnsInHanded {} Tryd.checked os 3 .any (fun w args => (Rows.fnTimersSpec.pre enc Tryd.prog Tryd.f3 [] false w args ∧ laidMetH Tryd.prog laidTab w) ∧ sizedMet enc Tryd.prog Tryd.f3 (OpenSpec.ofChange Rows.fnTimersSpec) false w args)
      (Rows.fnTimersSpec.post enc Tryd.prog Tryd.f3 false true false false) := by
  refine returnsInHanded_of_change_and (C := Tryd.checked) (X := fun w _ => laidMetH Tryd.prog laidTab w) (fun _ _ _ hh h => h.of_heap hh) own started (by kernel_rfl) Tryd.func3
    (ChangeSpec.witness_shaped (enc := enc) (C := Tryd.checked) (os := os) (X := fun w _ => laidMetH Tryd.prog laidTab w) false (World.doorLaid Tryd.prog 400 os) #[.slice none 0 0] 8 rfl (World.shaped_of_RefB (by kernel_rfl) (by kernel_rfl)) (by kernel_rfl) (by kernel_rfl) (by kernel_rfl) (door_met os _)) ?_
  intro W base args ds gs before hval0 hW _ _ hL _
  have hval : ∀ (j : Nat) t v, Tryd.f3.params[j]? = some t → args[j]? = some v → Value.okWide Tryd.prog W .any base t v := hval0
  have hW' := hW
  obtain ⟨p, q, hA0, hV, rfl, hfz, hnd⟩ := hW
  have hA : DataW.TrodAll enc Tryd.prog W 0 (fun _ => true) true Tryd.f3.params.toList args.toList ds p := hA0
  rw [Tryd.params3] at hA hval
  obtain ⟨v0, d0, rfl, rfl, h0⟩ := trodAll_one hA
  have hV' : DataW.TrodVars enc Tryd.prog W (fun _ => true) ["loop.example/g00743/impl.mayBecome"] gs q := hV
  obtain ⟨_, _, _, _, g1, _, rfl, _⟩ := trodVars_one hV'
  have lt0 : ∀ x ∈ p, x.block < W.heap.size := by obtain ⟨m, hm⟩ := h0; exact DataW.trod_lt m _ _ _ hm
  obtain ⟨a, len, cap, hsl, hm, hcode⟩ := code_in (hval 0 22 v0 rfl rfl) h0
  clear hA0 hval0
  refine (timers_walk hT hS hP v0 len W hm ⟨a, cap, hsl⟩ hcode (tab_of_laid hL)).mono fun e W' ⟨he, hb⟩ => ?_
  subst he
  exact ⟨_, rfl, post_lowVB (pa := p) (pv := q) hW' (fun _ _ _ => trodAll_mk1 (shut_bool Tryd.underlying4 _)) (trodAll_mk1 (Below.trod laidOut (by kernel_rfl) (of_decide_eq_true (by kernel_rfl)) h0 hb lt0)) (hb.trodVars laidOut1 tabRowed hV') rfl hb⟩

theorem timers_row (hT : AsksT 9) (hS : AsksS 13) (hP : AsksP 11) : Rows.FnTimersSaid :=
  OpenClaim.holds_of_wide 3 Tryd.f3 rfl rfl rfl rfl rfl rfl rfl ⟨rfl, rfl, rfl, rfl, rfl⟩ rfl rfl rfl rfl rfl (by kernel_rfl) Tryd.func3 (by kernel_rfl)
    (of_decide_eq_true (by kernel_rfl)) (by unfold Func.isWrapper; first | (rw [if_pos (by decide +kernel)]; kernel_rfl) | (rw [if_neg (by decide +kernel)]; exact ⟨rfl, rfl⟩))
    (fun os started H enc _ => timers_lifted hT hS hP os started H enc)

/-- the card: the row, with the table tied to the program's text -/
theorem timers_card (hT : AsksT 9) (hS : AsksS 13) (hP : AsksP 11) : Rows.FnTimersCardSaid :=
  Claim7.holds_tied_plain_at .later [] [.data] true (true, "5953c30c263e2fa50859b07ff6b3f2e16fced850671aee6e5057b9aa7189ccd6") false
    (timers_row hT hS hP) (fun _ h => by cases h) (by kernel_rfl) (fun _ h => by cases h) fnTimers_row_tie rfl ⟨rfl, rfl⟩ (by kernel_rfl) rfl
    (fun f fn hf hfn => by
      obtain rfl : f = 3 := Option.some.inj ((show Tryd.prog.funcNamed "loop.example/g00743/laws.FnTimers" = some 3 by kernel_rfl).symm.trans hf) |>.symm
      obtain rfl : fn = Tryd.f3 := (Option.some.inj (Tryd.func3.symm.trans hfn)).symm
      exact ⟨by kernel_rfl, fun j t ht => by
        rw [Tryd.params3] at ht
        have hm : t ∈ [22] := by simpa using Array.mem_of_getElem? ht
        have hall : ([22].all fun u => !Tryd.prog.wantsStandIn u) = true := by kernel_rfl
        exact (show Tryd.prog.wantsStandIn t = false by simpa using List.all_eq_true.1 hall t hm)⟩)
    (by kernel_rfl)

end Go.Proofs.YthhpnepcfpapcaaDoor
