/-
  The program's PulledOff (chapter 2).
-/
import Derived.Test.YtegmlabiodikpaaHeapImpl4
namespace Go.Proofs.Ytegmlabiodikpaa
open Go.RowKit Go.Joins
set_option linter.unusedVariables false

set_option maxRecDepth 100000 in
set_option maxHeartbeats 2000000 in
theorem iPulled_out {v : Value} {n : Nat} {f : Slots} (i : Int) {w : World} (hn : n ≤ 1048576) (hi : hasB n i = false) (h : RowAt w v n f) :
    Calls Try.prog 17 #[v, .int .i64 i] w (NewRowS n f (0, 0) false w) := by
  have kb := (Below.refl w.heap.size w).alloc (Nat.le_refl _) (.cells #[.int .i64 0, .int .i64 0] 30)
  have hs0 : w.heap.size < (w.alloc (.cells #[.int .i64 0, .int .i64 0] 30)).heap.size := by simp
  have HR := Lib.hid (h.below kb)
  have HB := Lib.hid (heap_alloc_new w (.cells #[.int .i64 0, .int .i64 0] 30))
  clear h
  go_enter Try.func17, Try.ntmps17
  go_wp2_with fail
  go_at_call 39; refine (heapFrom_any hn HR.out).mono ?_; rintro e w1 ⟨v1, rfl, hO, hb1⟩
  have hform := hO.row.form
  obtain ⟨a1, c1, hv1⟩ := hO.row.form
  have k1 := kb.trans (hb1.mono kb.size)
  have hR1 := b_block hb1 HB.out hs0
  have hO1 := hO.alloc (.cells #[v1, dueV] 57)
  have k2 := k1.alloc k1.size (.cells #[v1, dueV] 57)
  have hl2 : w1.heap.size < (w1.alloc (.cells #[v1, dueV] 57)).heap.size := by simp
  have HH := Lib.hid (heap_alloc_new w1 (.cells #[v1, dueV] 57))
  have HR2 := Lib.hid (alloc_block (.cells #[v1, dueV] 57) hR1)
  have hr2 : w.heap.size < (w1.alloc (.cells #[v1, dueV] 57)).heap.size := Nat.lt_of_le_of_lt k1.size hl2
  clear HR HB hO hb1 k1 hR1 kb
  subst hv1
  go_wp2_with fail
  go_at_call 45; refine (hHas_is false hi (Nat.le_succ_of_le hn) hform).mono ?_; rintro e w3 ⟨rfl, hb3⟩
  have hH3 := b_block hb3 HH.out hl2
  have hR3 := b_block hb3 HR2.out hr2
  have a0 := cell_of_block hH3 0
  have a1 := cell_of_block hH3 1
  have r0 := cell_of_block hR3 0
  have r1 := cell_of_block hR3 1
  have f0 := unfrozen_of_block hR3 0
  have f1 := unfrozen_of_block hR3 1
  have hO3 := (((hO1.below hb3).set hs0 0 (.int .i64 0)).set hs0 1 (.int .i64 0)).mono (Nat.le_of_lt hs0)
  have k3 := ((k2.trans (hb3.mono k2.size)).setCell (p := ⟨w.heap.size, 0, none⟩) (Nat.le_refl _) (.int .i64 0)).setCell (p := ⟨w.heap.size, 1, none⟩) (Nat.le_refl _) (.int .i64 0)
  clear HH HR2 hO1 k2 hb3 hH3 hR3
  go_wp2
  exact bodyPost_ret (v := .tuple #[.slice _ n _, .agg #[.int .i64 0, .int .i64 0], .bool false]) (by simp [results, Try.results17, go_sem, r0, r1]) rfl
    ⟨_, rfl, hO3, k3⟩

set_option maxRecDepth 100000 in
set_option maxHeartbeats 2000000 in
theorem iPulled_in {v : Value} {n k : Nat} {f : Slots} {w : World} (hn : n ≤ 1048576) (hk : k < n) (h : RowAt w v n f) :
    Calls Try.prog 17 #[v, .int .i64 k] w (NewRowS (n - 1) (pulledF f n k) (f k) true w) := by
  have hi : hasB n (k : Int) = true := hasB_iff.2 ⟨by omega, by omega⟩
  have kb := (Below.refl w.heap.size w).alloc (Nat.le_refl _) (.cells #[.int .i64 0, .int .i64 0] 30)
  have hs0 : w.heap.size < (w.alloc (.cells #[.int .i64 0, .int .i64 0] 30)).heap.size := by simp
  have HR := Lib.hid (h.below kb)
  have HB := Lib.hid (heap_alloc_new w (.cells #[.int .i64 0, .int .i64 0] 30))
  clear h
  go_enter Try.func17, Try.ntmps17
  go_wp2_with fail
  go_at_call 39; refine (heapFrom_any hn HR.out).mono ?_; rintro e w1 ⟨v1, rfl, hO, hb1⟩
  rcases hO with ⟨rfl, _⟩ | ⟨g, cap, rfl, hO⟩
  · omega
  have hform : ∃ a c, Value.slice (some ⟨g, 0, none⟩) n cap = .slice a n c := ⟨_, _, rfl⟩
  have k1 := kb.trans (hb1.mono kb.size)
  have hR1 := b_block hb1 HB.out hs0
  have hO1 := hO.alloc (.cells #[(.slice (some ⟨g, 0, none⟩) n cap), dueV] 57)
  have k2 := k1.alloc k1.size (.cells #[(.slice (some ⟨g, 0, none⟩) n cap), dueV] 57)
  have hl2 : w1.heap.size < (w1.alloc (.cells #[(.slice (some ⟨g, 0, none⟩) n cap), dueV] 57)).heap.size := by simp
  have HH := Lib.hid (heap_alloc_new w1 (.cells #[(.slice (some ⟨g, 0, none⟩) n cap), dueV] 57))
  have HR2 := Lib.hid (alloc_block (.cells #[(.slice (some ⟨g, 0, none⟩) n cap), dueV] 57) hR1)
  have hr2 : w.heap.size < (w1.alloc (.cells #[(.slice (some ⟨g, 0, none⟩) n cap), dueV] 57)).heap.size := Nat.lt_of_le_of_lt k1.size hl2
  have hBw := hb1.size
  clear HR HB hO hb1 k1 hR1 kb
  go_wp2_with fail
  go_at_call 45; refine (hHas_is true hi (Nat.le_succ_of_le hn) hform).mono ?_; rintro e w3 ⟨rfl, hb3⟩
  have hin3 : HeapIn w3 w1.heap.size (.slice (some ⟨g, 0, none⟩) n cap) := b_block hb3 HH.out hl2
  have HR3 := Lib.hid (b_block hb3 HR2.out hr2)
  have hO3 := hO1.below hb3
  have k3 := k2.trans (hb3.mono k2.size)
  clear HH HR2 hO1 k2 hb3
  go_wp2_with fail
  go_at_call 46; refine (hPull_any hn hk hBw hin3 hO3).mono ?_; rintro e w4 ⟨rfl, v4, hin4, hO4, hb4⟩
  obtain ⟨a4, c4, hv4⟩ := hO4.row.form
  have HR4 := b_block hb4 HR3.out hs0
  have k4 := k3.trans (hb4.mono (Nat.le_of_lt hs0))
  have hP := heap_alloc_new w4 (.cells #[.int .i64 (f k).1, .int .i64 (f k).2] 30)
  have hin5 := alloc_block (.cells #[.int .i64 (f k).1, .int .i64 (f k).2] 30) hin4
  have HR5 := alloc_block (.cells #[.int .i64 (f k).1, .int .i64 (f k).2] 30) HR4
  have a0 := cell_of_block hin5 0
  have a1 := cell_of_block hin5 1
  have p0 := cell_of_block hP 0
  have p1 := cell_of_block hP 1
  have r0 := cell_of_block HR5 0
  have r1 := cell_of_block HR5 1
  have f0 := unfrozen_of_block HR5 0
  have f1 := unfrozen_of_block HR5 1
  have hO5 := (((hO4.alloc (.cells #[.int .i64 (f k).1, .int .i64 (f k).2] 30)).set hs0 0 (.int .i64 (f k).1)).set hs0 1 (.int .i64 (f k).2)).mono (Nat.le_of_lt hs0)
  have k5 := ((k4.alloc k4.size (.cells #[.int .i64 (f k).1, .int .i64 (f k).2] 30)).setCell (p := ⟨w.heap.size, 0, none⟩) (Nat.le_refl _) (.int .i64 (f k).1)).setCell (p := ⟨w.heap.size, 1, none⟩) (Nat.le_refl _) (.int .i64 (f k).2)
  clear hin3 HR3 hO3 k3 hin4 hO4 hb4 HR4 k4 hP hin5 HR5
  subst hv4
  go_wp2_with fail
  go_region
  all_goals
    go_wp2
    exact bodyPost_ret (v := .tuple #[.slice a4 (n - 1) c4, .agg #[.int .i64 (f k).1, .int .i64 (f k).2], .bool true]) (by simp [results, Try.results17, go_sem, r0, r1]) rfl
      ⟨_, rfl, hO5.drew, k5.drew⟩

theorem iPulled_holds : Pulls 17 := by
  intro v n f i w hn h
  cases hi : hasB n i
  · rw [pulledN, pulledF, pulledS, hi]
    exact iPulled_out i hn hi h
  · obtain ⟨i0, i1⟩ := hasB_iff.1 hi
    obtain ⟨k, rfl⟩ : ∃ k : Nat, i = k := ⟨i.toNat, by omega⟩
    rw [pulledN, pulledS, hi, if_pos rfl, if_pos rfl, Int.toNat_natCast]
    exact iPulled_in hn (by omega) h

end Go.Proofs.Ytegmlabiodikpaa
