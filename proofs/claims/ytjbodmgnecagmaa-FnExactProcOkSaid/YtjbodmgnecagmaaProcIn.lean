/-
  Is there such a processor (spec, chapter 1)?
-/
import Derived.Test.YtjbodmgnecagmaaPlanSpec
namespace Go.Proofs.Ytjbodmgnecagmaa
open Go.RowKit
set_option linter.unusedVariables false

def procB (a b c w : Int) : Bool := planB a b c && inB w 0 (a - 1)

theorem procB_no {a b c w : Int} (h : planB a b c = false) : procB a b c w = false := by simp [procB, h]

theorem procB_out {a b c w : Int} (h : inB w 0 (a - 1) = false) : procB a b c w = false := by simp [procB, h]

theorem procB_yes {a b c w : Int} (h : planB a b c = true) (h1 : inB w 0 (a - 1) = true) : procB a b c w = true := by simp [procB, h, h1]

theorem procB_iff {a b c w : Int} : procB a b c w = true ↔ planB a b c = true ∧ 0 ≤ w ∧ w ≤ a - 1 := by simp [procB, inB_iff]

end Go.Proofs.Ytjbodmgnecagmaa
