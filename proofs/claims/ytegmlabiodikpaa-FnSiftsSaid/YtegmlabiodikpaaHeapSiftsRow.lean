/-
  The row of FnSifts.
-/
import Derived.Test.YtegmlabiodikpaaHeapSifts
import Derived.OpenShut
import Derived.ChangeOld
namespace Go.Proofs.Ytegmlabiodikpaa
open Go.RowKit Go.Joins Go.ChangeShapes Go.WideShapes Go.ChangeAt
set_option linter.unusedVariables false

set_option maxRecDepth 100000 in
set_option maxHeartbeats 400000 in
theorem sifts_big (sl : Value) (len : Nat) (w : World) (hsl : ∃ a cap, sl = .slice a len cap) (hm : len ≤ maxLen) (hlen : 4096 < len) :
    Calls Try.prog 4 #[sl] w fun e w' => e = .returned (.bool true) ∧ Below w.heap.size w w' := by
  unfold maxLen at hm
  obtain ⟨a, cap, rfl⟩ := hsl
  go_enter Try.func4, Try.ntmps4
  go_wp2_with (go_at_call 11; go_in)
  go_ret
  exact ⟨rfl, Below.refl _ _⟩

/-- for every code the law returns true, told what the program's functions answer -/
theorem sifts_walk (hRa : Sifts 19 raisedF) (hSu : Sifts 20 sunkF) (hPu : Pushes 14) (hPl : Pulls 17) (hOk : AsksB 15 heapB) (hFi : AsksI 16 findM)
    (sl : Value) (len : Nat) (w : World) (hm : len ≤ maxLen) (hsl : ∃ a cap, sl = .slice a len cap) (hcode : CodeAt w w.heap.size sl len) :
    Calls Try.prog 4 #[sl] w fun e w' => e = .returned (.bool true) ∧ Below w.heap.size w w' := by
  by_cases h : len ≤ 4096
  · exact sifts_small hRa hSu hPu hPl hOk hFi h hsl hcode
  · exact sifts_big sl len w hsl hm (by omega)

set_option maxRecDepth 100000 in
theorem sifts_lifted (hRa : Sifts 19 raisedF) (hSu : Sifts 20 sunkF) (hPu : Pushes 14) (hPl : Pulls 17) (hOk : AsksB 15 heapB) (hFi : AsksI 16 findM) (os : Os) (started : os.Started) (H : Type) (enc : TypeId × Value → H) :
    ReturnsInHanded {} Try.checked os 4 .any (Rows.fnSiftsSpec.pre6 enc Try.prog Try.f4 Rows.fnSiftsRow.domain false) (Rows.fnSiftsSpec.post enc Try.prog Try.f4 false true false false) := by
  refine returnsInHanded_of_change (C := Try.checked) own started (by kernel_rfl) Try.func4
    (ChangeSpec.witness6 (enc := enc) (C := Try.checked) false ⟨#[], #[.slice none 0 0], []⟩ 8 (by kernel_rfl) (by kernel_rfl) (by kernel_rfl) (by kernel_rfl)) ?_
  intro W base args ds gs before hval0 hW _ _
  have hval : ∀ (j : Nat) t v, Try.f4.params[j]? = some t → args[j]? = some v → Value.okWide Try.prog W .any base t v := hval0
  have hW' := hW
  obtain ⟨p, q, hA0, hV, rfl, _, _⟩ := hW
  have hA : DataW.TrodAll enc Try.prog W 0 (fun _ => true) true Try.f4.params.toList args.toList ds p := hA0
  rw [Try.params4] at hA hval
  obtain ⟨v0, d0, rfl, rfl, h0⟩ := trodAll_one hA
  obtain ⟨rfl, rfl⟩ := trodVars_none hV
  have lt0 : ∀ x ∈ p, x.block < W.heap.size := by obtain ⟨m, hm⟩ := h0; exact DataW.trod_lt m _ _ _ hm
  obtain ⟨a, len, cap, hsl, hm, hcode⟩ := code_in (hval 0 22 v0 rfl rfl) h0
  clear hA0 hval0
  refine (sifts_walk hRa hSu hPu hPl hOk hFi v0 len W hm ⟨a, cap, hsl⟩ hcode).mono fun e W' ⟨he, hb⟩ => ?_
  subst he
  exact ⟨_, rfl, _, _, _, [], _, [], hW', trodAll_mk1 (shut_bool Try.underlying4 _), trodAll_mk1 (Below.trod laidOut (by kernel_rfl) (of_decide_eq_true (by kernel_rfl)) h0 hb lt0), rfl, hb.frame _, fun h => by cases h⟩

theorem sifts_holds (hRa : Sifts 19 raisedF) (hSu : Sifts 20 sunkF) (hPu : Pushes 14) (hPl : Pulls 17) (hOk : AsksB 15 heapB) (hFi : AsksI 16 findM) : Rows.FnSiftsSaid :=
  OpenClaim.holds_of_wide 4 Try.f4 rfl rfl rfl rfl rfl rfl rfl ⟨rfl, rfl, rfl, rfl, rfl⟩ rfl rfl rfl rfl rfl (by kernel_rfl) Try.func4 (by kernel_rfl)
    (of_decide_eq_true (by kernel_rfl)) (by unfold Func.isWrapper; rw [if_neg (of_decide_eq_false (by kernel_rfl))]; exact ⟨rfl, rfl⟩)
    (fun os started H enc _ => sifts_lifted hRa hSu hPu hPl hOk hFi os started H enc)

end Go.Proofs.Ytegmlabiodikpaa
