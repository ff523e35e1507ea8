/-
  The program's own functions on heaps (chapter 2): what HeapOk, RaisedFrom and SunkFrom answer.
-/
import Derived.Test.YtnmaljieaflnmaaHeapOf4
import Derived.Test.YtnmaljieaflnmaaHeapOf5
import Derived.Test.YtnmaljieaflnmaaHeapExact
namespace Go.Proofs.Ytnmaljieaflnmaa
open Go.RowKit Go.Joins
set_option linter.unusedVariables false

set_option maxRecDepth 100000 in
set_option maxHeartbeats 1000000 in
theorem iHeapOk_holds : AsksB 91 heapB := by
  intro v n f w hn h
  obtain ⟨a, cap, rfl⟩ := h.form
  have HR := Lib.hid h
  clear h
  by_cases h30 : n ≤ 30
  · have hle : (n : Int) ≤ 30 := by omega
    have hd : heapB f n = heapFrom f n 1 := by rw [heapB, decide_eq_true h30, Bool.and_true]
    rw [hd]
    cases ho : heapFrom f n 1
    all_goals
      have HO := Lib.hid ho
      clear hd ho
      go_enter Try.func91, Try.ntmps91
      go_wp2_with fail
      go_at_call 116; refine (heapFrom_any hn HR.out).mono ?_; rintro e w1 ⟨v1, rfl, hO, hb⟩
      go_wp2_with fail
      go_at_call 118; refine (hInOrder_any hn hO.row).mono ?_; rw [HO.out]; rintro e w2 ⟨rfl, hb2⟩
      have k2 := hb.trans (hb2.mono hb.size)
      clear hO hb hb2 HO
      go_wp2
      go_ret
      exact ⟨rfl, k2⟩
  · have hle : ¬ (n : Int) ≤ 30 := by omega
    have hd2 : decide (n ≤ 30) = false := by simp; omega
    have hd : heapB f n = false := by rw [heapB, hd2, Bool.and_false]
    rw [hd]
    clear hd
    go_enter Try.func91, Try.ntmps91
    go_wp2
    go_ret
    exact ⟨rfl, Below.refl _ _⟩

end Go.Proofs.Ytnmaljieaflnmaa
