/-
  'laws.FnExactInHeap': for every number the law returns true and the argument reads as before. No condition.
-/
import Derived.Test.YthhpnepcfpapcaaTimerImpl2
namespace Go.Proofs.Ythhpnepcfpapcaa

theorem exInHeap_stands : Rows.FnExactInHeapSaid := exInHeap_holds imInHeap_any
end Go.Proofs.Ythhpnepcfpapcaa
