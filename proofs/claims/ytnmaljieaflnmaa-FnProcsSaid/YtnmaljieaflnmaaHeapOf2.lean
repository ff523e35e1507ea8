/-
  The program's generic list that is told what is less (chapter 2), at slots: made from a list; is it in order?
-/
import Derived.Test.YtnmaljieaflnmaaHeapOf
import Derived.Test.YtnmaljieaflnmaaHeapSift
namespace Go.Proofs.Ytnmaljieaflnmaa
open Go.RowKit Go.Joins
set_option linter.unusedVariables false

/-- a heap made from a list -/
def NewHeap (n : Nat) (f : Slots) (w : World) (e : Ending) (w' : World) : Prop := ∃ v, e = .returned (heapV v) ∧ OwnRow w' w.heap.size v n f ∧ Below w.heap.size w w'

set_option maxRecDepth 100000 in
set_option maxHeartbeats 1000000 in
theorem heapFrom_any {v : Value} {n : Nat} {f : Slots} {w : World} (hn : n ≤ 1048576) (h : RowAt w v n f) :
    Calls Try.prog 116 #[v, dueV] w (NewHeap n f w) := by
  have k0 := (Below.refl w.heap.size w).alloc (Nat.le_refl _) (.cells #[.slice none 0 0, .nilFunc] 136)
  have hsz : (w.alloc (.cells #[.slice none 0 0, .nilFunc] 136)).heap.size = w.heap.size + 1 := by simp
  have HB := Lib.hid (heap_alloc_new w (.cells #[.slice none 0 0, .nilFunc] 136))
  have h0 := h.below k0
  have H := Lib.hid (h0.below ((Below.refl _ _).alloc (Nat.le_refl _) (.cells #[] 35)))
  have ho := Lib.hid (World.ownsRow_made (w.alloc (.cells #[.slice none 0 0, .nilFunc] 136)) (base := (w.alloc (.cells #[.slice none 0 0, .nilFunc] 136)).heap.size) (e := 35) (size := 2) #[] 0 (Nat.le_refl _) (Nat.zero_le _) rfl)
  have k1 := k0.alloc (Nat.le_of_lt (show w.heap.size < (w.alloc (.cells #[.slice none 0 0, .nilFunc] 136)).heap.size by simp)) (.cells #[] 35)
  have hB1 : w.heap.size + 1 ≤ ((w.alloc (.cells #[.slice none 0 0, .nilFunc] 136)).alloc (.cells #[] 35)).heap.size := by simp
  rw [hsz] at ho
  clear h h0
  go_enter Try.func116, Try.ntmps116
  go_wp2_with (first | (at_builtin; refine wpList_append_slots rfl (.tmp 5) (.tmp 6) rfl (w.heap.size + 1) (.slice (some ⟨w.heap.size + 1, 0, none⟩) 0 0) 0 f rfl ho.out v n f rfl H.out (by omega) hB1 ?_; intro v' w' hown hg _; rw [append_zero, Nat.zero_add] at hown; have hO := own_of_row hown; clear hown; obtain ⟨a', cap', hvv⟩ := hO.row.form; subst hvv; have hkk := b_grown hg (Nat.le_refl _) hB1; have hbl := (hkk.block _ (Nat.lt_succ_self _)).trans ((Below.heap_alloc _ (.cells #[] 35) w.heap.size (by omega)).trans HB.out); have c0 := cell_of_block hbl 0; have c1 := cell_of_block hbl 1; have g0 := unfrozen_of_block hbl 0; have g1 := unfrozen_of_block hbl 1))
  have hO2 := ((hO.set (Nat.lt_succ_self _) 0 (.slice a' n cap')).set (Nat.lt_succ_self _) 1 dueV).mono (Nat.le_succ _)
  exact bodyPost_ret (v := heapV (.slice a' n cap')) (by simp [results, Try.results116, go_sem, c0, c1]) rfl
    ⟨.slice a' n cap', rfl, hO2, ((k1.trans (hkk.mono (Nat.le_succ _))).setCell (p := ⟨w.heap.size, 0, none⟩) (Nat.le_refl _) _).setCell (p := ⟨w.heap.size, 1, none⟩) (Nat.le_refl _) _⟩

end Go.Proofs.Ytnmaljieaflnmaa
