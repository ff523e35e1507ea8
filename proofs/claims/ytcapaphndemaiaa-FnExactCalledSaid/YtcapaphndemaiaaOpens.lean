/-
  A plan of a law, opened and shut.
-/
import Derived.Test.YtcapaphndemaiaaFlat
namespace Go.Proofs.Ytcapaphndemaiaa
open Go.ChangeShapes Go.WideShapes Go.ChangeAt Go.RowKit Go.Joins
set_option linter.unusedVariables false

theorem cellsPlanLaw : Try.prog.cellsOf 23 = 3 := by kernel_rfl
set_option maxRecDepth 100000 in
/-- a plan of three numbers, opened -/
theorem open_plan {H : Type} {enc : TypeId × Value → H} {W : World} {base : Nat} {sp : Nat → Bool} {hd : Bool} {v : Value} {d : DataW H} {p : List MemPlace}
    (hv : Value.okWide Try.prog W .any base 23 v) (h : DataW.Trod enc Try.prog W 0 sp hd 23 v d p) :
    ∃ a b c : Int, v = .agg #[.int .i64 a, .int .i64 b, .int .i64 c] ∧ d = .agg (numsD [a, b, c]) ∧ p = [] ∧ ∀ z ∈ [a, b, c], (Lit.int .i64 z).wf = true := by
  obtain ⟨zs, hl, rfl, rfl, rfl, hw⟩ := open_flat Try.underlying23 (I := 2) (by kernel_rfl) Try.underlying2 (by kernel_rfl) (by kernel_rfl) hv h
  match zs, hl with
  | [a, b, c], _ => exact ⟨a, b, c, rfl, rfl, rfl, hw⟩
set_option maxRecDepth 100000 in
theorem shut_plan {H : Type} {enc : TypeId × Value → H} {a b c : Int} (hw : ∀ z ∈ [a, b, c], (Lit.int .i64 z).wf = true) (W' : World) (n : Nat) (sp : Nat → Bool) (hd : Bool) :
    DataW.Trod enc Try.prog W' n sp hd 23 (.agg #[.int .i64 a, .int .i64 b, .int .i64 c]) (.agg (numsD [a, b, c])) [] :=
  shut_flat (zs := [a, b, c]) Try.underlying23 (I := 2) (by kernel_rfl) Try.underlying2 (by kernel_rfl) (by kernel_rfl) rfl hw

end Go.Proofs.Ytcapaphndemaiaa
