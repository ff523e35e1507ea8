/-
  The row of FnProcs.
-/
import Derived.Test.YtnmaljieaflnmaaProcFn
import Derived.OpenShut
import Derived.ChangeOld
namespace Go.Proofs.Ytnmaljieaflnmaa
open Go.RowKit Go.Joins Go.ChangeShapes Go.WideShapes Go.ChangeAt
set_option linter.unusedVariables false

set_option maxRecDepth 100000 in
set_option maxHeartbeats 400000 in
theorem procs_big (sl : Value) (len : Nat) (w : World) (hsl : ∃ a cap, sl = .slice a len cap) (hm : len ≤ maxLen) (hlen : 4096 < len) :
    Calls Try.prog 3 #[sl] w fun e w' => e = .returned (.bool true) ∧ Below w.heap.size w w' := by
  unfold maxLen at hm
  obtain ⟨a, cap, rfl⟩ := hsl
  go_enter Try.func3, Try.ntmps3
  go_wp2_with (go_at_call 10; go_in)
  go_ret
  exact ⟨rfl, Below.refl _ _⟩

/-- for every code the law returns true, told what the program's functions answer -/
theorem procs_walk (hR : AsksR 14) (hW : AsksW 13)
    (sl : Value) (len : Nat) (w : World) (hm : len ≤ maxLen) (hsl : ∃ a cap, sl = .slice a len cap) (hcode : CodeAt w w.heap.size sl len) :
    Calls Try.prog 3 #[sl] w fun e w' => e = .returned (.bool true) ∧ Below w.heap.size w w' := by
  by_cases h : len ≤ 4096
  · exact procs_small hR hW h hsl hcode
  · exact procs_big sl len w hsl hm (by omega)

set_option maxRecDepth 100000 in
theorem procs_lifted (hR : AsksR 14) (hW : AsksW 13) (os : Os) (started : os.Started) (H : Type) (enc : TypeId × Value → H) :
    ReturnsInHanded {} Try.checked os 3 .any (Rows.fnProcsSpec.pre6 enc Try.prog Try.f3 Rows.fnProcsRow.domain false) (Rows.fnProcsSpec.post enc Try.prog Try.f3 false true false false) := by
  refine returnsInHanded_of_change (C := Try.checked) own started (by kernel_rfl) Try.func3
    (ChangeSpec.witness6 (enc := enc) (C := Try.checked) false ⟨#[], #[.slice none 0 0], []⟩ 8 (by kernel_rfl) (by kernel_rfl) (by kernel_rfl) (by kernel_rfl)) ?_
  intro W base args ds gs before hval0 hW _ _
  have hval : ∀ (j : Nat) t v, Try.f3.params[j]? = some t → args[j]? = some v → Value.okWide Try.prog W .any base t v := hval0
  have hW' := hW
  obtain ⟨p, q, hA0, hV, rfl, _, _⟩ := hW
  have hA : DataW.TrodAll enc Try.prog W 0 (fun _ => true) true Try.f3.params.toList args.toList ds p := hA0
  rw [Try.params3] at hA hval
  obtain ⟨v0, d0, rfl, rfl, h0⟩ := trodAll_one hA
  obtain ⟨rfl, rfl⟩ := trodVars_none hV
  have lt0 : ∀ x ∈ p, x.block < W.heap.size := by obtain ⟨m, hm⟩ := h0; exact DataW.trod_lt m _ _ _ hm
  obtain ⟨a, len, cap, hsl, hm, hcode⟩ := code_in (hval 0 22 v0 rfl rfl) h0
  clear hA0 hval0
  refine (procs_walk hR hW v0 len W hm ⟨a, cap, hsl⟩ hcode).mono fun e W' ⟨he, hb⟩ => ?_
  subst he
  exact ⟨_, rfl, _, _, _, [], _, [], hW', trodAll_mk1 (shut_bool Try.underlying4 _), trodAll_mk1 (Below.trod laidOut (by kernel_rfl) (of_decide_eq_true (by kernel_rfl)) h0 hb lt0), rfl, hb.frame _, fun h => by cases h⟩

theorem procs_holds (hR : AsksR 14) (hW : AsksW 13) : Rows.FnProcsSaid :=
  OpenClaim.holds_of_wide 3 Try.f3 rfl rfl rfl rfl rfl rfl rfl ⟨rfl, rfl, rfl, rfl, rfl⟩ rfl rfl rfl rfl rfl (by kernel_rfl) Try.func3 (by kernel_rfl)
    (of_decide_eq_true (by kernel_rfl)) (by unfold Func.isWrapper; rw [if_neg (of_decide_eq_false (by kernel_rfl))]; exact ⟨rfl, rfl⟩)
    (fun os started H enc _ => procs_lifted hR hW os started H enc)

end Go.Proofs.Ytnmaljieaflnmaa
