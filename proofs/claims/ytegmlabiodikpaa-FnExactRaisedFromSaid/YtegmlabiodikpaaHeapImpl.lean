/-
  The program's own functions on heaps (chapter 2): what HeapOk, RaisedFrom and SunkFrom answer.
-/
import Derived.Test.YtegmlabiodikpaaHeapOf4
import Derived.Test.YtegmlabiodikpaaHeapOf5
import Derived.Test.YtegmlabiodikpaaHeapExact
namespace Go.Proofs.Ytegmlabiodikpaa
open Go.RowKit Go.Joins
set_option linter.unusedVariables false

set_option maxRecDepth 100000 in
set_option maxHeartbeats 1000000 in
theorem iHeapOk_holds : AsksB 15 heapB := by
  intro v n f w hn h
  obtain ⟨a, cap, rfl⟩ := h.form
  have HR := Lib.hid h
  clear h
  by_cases h30 : n ≤ 30
  · have hle : (n : Int) ≤ 30 := by omega
    have hd : heapB f n = heapFrom f n 1 := by rw [heapB, decide_eq_true h30, Bool.and_true]
    rw [hd]
    cases ho : heapFrom f n 1
    all_goals
      have HO := Lib.hid ho
      clear hd ho
      go_enter Try.func15, Try.ntmps15
      go_wp2_with fail
      go_at_call 39; refine (heapFrom_any hn HR.out).mono ?_; rintro e w1 ⟨v1, rfl, hO, hb⟩
      go_wp2_with fail
      go_at_call 42; refine (hInOrder_any hn hO.row).mono ?_; rw [HO.out]; rintro e w2 ⟨rfl, hb2⟩
      have k2 := hb.trans (hb2.mono hb.size)
      clear hO hb hb2 HO
      go_wp2
      go_ret
      exact ⟨rfl, k2⟩
  · have hle : ¬ (n : Int) ≤ 30 := by omega
    have hd2 : decide (n ≤ 30) = false := by simp; omega
    have hd : heapB f n = false := by rw [heapB, hd2, Bool.and_false]
    rw [hd]
    clear hd
    go_enter Try.func15, Try.ntmps15
    go_wp2
    go_ret
    exact ⟨rfl, Below.refl _ _⟩

set_option maxRecDepth 100000 in
set_option maxHeartbeats 1000000 in
theorem iRaised_holds : Sifts 19 raisedF := by
  intro v n f i w hn h
  have HR := Lib.hid h
  clear h
  cases hi : hasB n i
  · rw [raisedF_no hi]
    go_enter Try.func19, Try.ntmps19
    go_wp2_with fail
    go_at_call 39; refine (heapFrom_any hn HR.out).mono ?_; rintro e w1 ⟨v1, rfl, hO, hb⟩
    have hform := hO.row.form
    obtain ⟨a1, c1, hv1⟩ := hO.row.form
    have HB := Lib.hid (heap_alloc_new w1 (.cells #[v1, dueV] 57))
    have k1 := hb.alloc hb.size (.cells #[v1, dueV] 57)
    have hO1 := hO.alloc (.cells #[v1, dueV] 57)
    have hl1 : w1.heap.size < (w1.alloc (.cells #[v1, dueV] 57)).heap.size := by simp
    subst hv1
    go_wp2_with fail
    go_at_call 49; refine (hRaise_out hn hi hform).mono ?_; rintro e w2 ⟨rfl, hb2⟩
    have hB2 := b_block hb2 HB.out hl1
    have c0 := cell_of_block hB2 0
    have c1 := cell_of_block hB2 1
    have k2 := k1.trans (hb2.mono k1.size)
    have hO2 := hO1.below hb2
    clear HB hb2 hB2 hO1 hO k1
    go_wp2
    go_ret
    exact ⟨_, rfl, hO2, k2⟩
  · obtain ⟨i0, i1⟩ := hasB_iff.1 hi
    obtain ⟨k, rfl⟩ : ∃ k : Nat, i = k := ⟨i.toNat, by omega⟩
    have hk : k < n := by omega
    rw [raisedF_has hi, Int.toNat_natCast]
    go_enter Try.func19, Try.ntmps19
    go_wp2_with fail
    go_at_call 39; refine (heapFrom_any hn HR.out).mono ?_; rintro e w1 ⟨v1, rfl, hO, hb⟩
    rcases hO with ⟨rfl, _⟩ | ⟨g, cap, rfl, hO⟩
    · omega
    have HB := Lib.hid (heap_alloc_new w1 (.cells #[.slice (some ⟨g, 0, none⟩) n cap, dueV] 57))
    have k1 := hb.alloc hb.size (.cells #[.slice (some ⟨g, 0, none⟩) n cap, dueV] 57)
    have hO1 := hO.alloc (.cells #[.slice (some ⟨g, 0, none⟩) n cap, dueV] 57)
    have hgl := hO.lt
    have hgB := hO.1
    have hne : w1.heap.size ≠ g := by omega
    go_wp2_with fail
    go_at_call 49; refine (hRaise_in hn hk hO1).mono ?_; rintro e w2 ⟨rfl, hO2, hg2⟩
    have hB2 := g_block hg2 HB.out hne
    have c0 := cell_of_block hB2 0
    have c1 := cell_of_block hB2 1
    have k2 := k1.trans (b_grown hg2 hgB k1.size)
    clear HB hg2 hB2 hO1 hO k1
    go_wp2
    go_ret
    exact ⟨_, rfl, hO2.own, k2⟩

set_option maxRecDepth 100000 in
set_option maxHeartbeats 1000000 in
theorem iSunk_holds : Sifts 20 sunkF := by
  intro v n f i w hn h
  have HR := Lib.hid h
  clear h
  cases hi : hasB n i
  · rw [sunkF_no hi]
    go_enter Try.func20, Try.ntmps20
    go_wp2_with fail
    go_at_call 39; refine (heapFrom_any hn HR.out).mono ?_; rintro e w1 ⟨v1, rfl, hO, hb⟩
    have hform := hO.row.form
    obtain ⟨a1, c1, hv1⟩ := hO.row.form
    have HB := Lib.hid (heap_alloc_new w1 (.cells #[v1, dueV] 57))
    have k1 := hb.alloc hb.size (.cells #[v1, dueV] 57)
    have hO1 := hO.alloc (.cells #[v1, dueV] 57)
    have hl1 : w1.heap.size < (w1.alloc (.cells #[v1, dueV] 57)).heap.size := by simp
    subst hv1
    go_wp2_with fail
    go_at_call 50; refine (hSink_out hn hi hform).mono ?_; rintro e w2 ⟨rfl, hb2⟩
    have hB2 := b_block hb2 HB.out hl1
    have c0 := cell_of_block hB2 0
    have c1 := cell_of_block hB2 1
    have k2 := k1.trans (hb2.mono k1.size)
    have hO2 := hO1.below hb2
    clear HB hb2 hB2 hO1 hO k1
    go_wp2
    go_ret
    exact ⟨_, rfl, hO2, k2⟩
  · obtain ⟨i0, i1⟩ := hasB_iff.1 hi
    obtain ⟨k, rfl⟩ : ∃ k : Nat, i = k := ⟨i.toNat, by omega⟩
    have hk : k < n := by omega
    rw [sunkF_has hi, Int.toNat_natCast]
    go_enter Try.func20, Try.ntmps20
    go_wp2_with fail
    go_at_call 39; refine (heapFrom_any hn HR.out).mono ?_; rintro e w1 ⟨v1, rfl, hO, hb⟩
    rcases hO with ⟨rfl, _⟩ | ⟨g, cap, rfl, hO⟩
    · omega
    have HB := Lib.hid (heap_alloc_new w1 (.cells #[.slice (some ⟨g, 0, none⟩) n cap, dueV] 57))
    have k1 := hb.alloc hb.size (.cells #[.slice (some ⟨g, 0, none⟩) n cap, dueV] 57)
    have hO1 := hO.alloc (.cells #[.slice (some ⟨g, 0, none⟩) n cap, dueV] 57)
    have hgl := hO.lt
    have hgB := hO.1
    have hne : w1.heap.size ≠ g := by omega
    go_wp2_with fail
    go_at_call 50; refine (hSink_in hn hk hO1).mono ?_; rintro e w2 ⟨rfl, hO2, hg2⟩
    have hB2 := g_block hg2 HB.out hne
    have c0 := cell_of_block hB2 0
    have c1 := cell_of_block hB2 1
    have k2 := k1.trans (b_grown hg2 hgB k1.size)
    clear HB hg2 hB2 hO1 hO k1
    go_wp2
    go_ret
    exact ⟨_, rfl, hO2.own, k2⟩

end Go.Proofs.Ytegmlabiodikpaa
