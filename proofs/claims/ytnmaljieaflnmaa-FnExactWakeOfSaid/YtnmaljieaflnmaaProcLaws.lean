/-
  Processors of the laws (laws): measured, copied, compared.
-/
import Derived.Test.YtnmaljieaflnmaaProcOk
import Derived.Test.YtnmaljieaflnmaaSlotLaws
namespace Go.Proofs.Ytnmaljieaflnmaa
open Go.RowKit Go.Joins
set_option linter.unusedVariables false

set_option maxHeartbeats 400000 in
theorem szProc_any {v : Value} {n : Nat} (l e d : Int) (hv : ∃ a cap, v = .slice a n cap) (left : Int) (w : World) (h0 : 0 ≤ left) (h1 : left ≤ 1048576) (hm : n ≤ maxLen) :
    Calls Try.prog 17 #[prV v l e d, .int .i64 left] w fun x w' => x = .returned (.int .i64 (if left < (n : Int) then -1 else left - n)) ∧ Below w.heap.size w w' := by
  have hv2 := hv
  have k0 := (Below.refl w.heap.size w).alloc (Nat.le_refl _) (.cells #[v, .int .i64 l, .int .i64 e, .int .i64 d] 38)
  obtain ⟨a, cap, rfl⟩ := hv
  by_cases h : left < (n : Int)
  · have hsz : ∀ W : World, Calls Try.prog 59 #[.slice a n cap, .int .i64 left] W fun x w' => x = .returned (.int .i64 (-1)) ∧ W = w' := fun W => by
      have := szSlotS_any hv2 left W h0 h1 hm
      rwa [if_pos h] at this
    rw [if_pos h]
    clear h h0 h1
    go_enter Try.func17, Try.ntmps17
    go_wp2_with fail
    go_at_call 59; refine (hsz _).mono ?_; rintro x w' ⟨rfl, rfl⟩
    go_wp2
    go_ret
    exact ⟨rfl, k0⟩
  · obtain ⟨z, hz⟩ : ∃ z : Int, z = left - (n : Int) := ⟨_, rfl⟩
    have hsz : ∀ W : World, Calls Try.prog 59 #[.slice a n cap, .int .i64 left] W fun x w' => x = .returned (.int .i64 z) ∧ W = w' := fun W => by
      have := szSlotS_any hv2 left W h0 h1 hm
      rw [if_neg h, ← hz] at this
      exact this
    have hd : decide (z < 0) = false := by simp; omega
    have hle : (0 : Int) ≤ z := by omega
    rw [if_neg h, ← hz]
    clear h h0 h1 hz
    go_enter Try.func17, Try.ntmps17
    go_wp2_with fail
    go_at_call 59; refine (hsz _).mono ?_; rintro x w' ⟨rfl, rfl⟩
    go_wp2
    go_ret
    exact ⟨rfl, k0⟩

/-- a call that copies a processor -/
def NewProc (n : Nat) (f : Slots) (l e d : Int) (w : World) (x : Ending) (w' : World) : Prop := ∃ u, x = .returned (prV u l e d) ∧ OwnRow w' w.heap.size u n f ∧ Below w.heap.size w w'
theorem four {w : World} {b : Nat} {x y z u : Value} {t : TypeId} (h : w.heap[b]? = some (.cells #[x, y, z, u] t (0, 0))) :
    w.cell? ⟨b, 0, none⟩ = some x ∧ w.cell? ⟨b, 1, none⟩ = some y ∧ w.cell? ⟨b, 2, none⟩ = some z ∧ w.cell? ⟨b, 3, none⟩ = some u ∧ w.frozen? ⟨b, 0, none⟩ = false ∧ w.frozen? ⟨b, 1, none⟩ = false ∧ w.frozen? ⟨b, 2, none⟩ = false ∧ w.frozen? ⟨b, 3, none⟩ = false :=
  ⟨cell_of_block h 0, cell_of_block h 1, cell_of_block h 2, cell_of_block h 3, unfrozen_of_block h 0, unfrozen_of_block h 1, unfrozen_of_block h 2, unfrozen_of_block h 3⟩

set_option maxRecDepth 100000 in
set_option maxHeartbeats 1000000 in
theorem toProc_any {v : Value} {n : Nat} {f : Slots} (l e d : Int) {w : World} (hn : n ≤ 1048576) (h : RowAt w v n f) :
    Calls Try.prog 18 #[prV v l e d] w (NewProc n f l e d w) := by
  have k0 := (Below.refl w.heap.size w).alloc (Nat.le_refl _) (.cells #[v, .int .i64 l, .int .i64 e, .int .i64 d] 38)
  have e1 : (w.alloc (.cells #[v, .int .i64 l, .int .i64 e, .int .i64 d] 38)).heap.size = w.heap.size + 1 := by simp
  have e2 : ((w.alloc (.cells #[v, .int .i64 l, .int .i64 e, .int .i64 d] 38)).alloc (.cells #[.slice none 0 0, .int .i64 0, .int .i64 0, .int .i64 0] 28)).heap.size = w.heap.size + 2 := by simp
  have e3 : (((w.alloc (.cells #[v, .int .i64 l, .int .i64 e, .int .i64 d] 38)).alloc (.cells #[.slice none 0 0, .int .i64 0, .int .i64 0, .int .i64 0] 28)).alloc (.cells #[.slice none 0 0, .int .i64 0, .int .i64 0, .int .i64 0] 28)).heap.size = w.heap.size + 3 := by simp
  have k3 := (k0.alloc (by omega) (.cells #[.slice none 0 0, .int .i64 0, .int .i64 0, .int .i64 0] 28)).alloc (by omega) (.cells #[.slice none 0 0, .int .i64 0, .int .i64 0, .int .i64 0] 28)
  have hr := h.below k3
  have hX := alloc_block (.cells #[.slice none 0 0, .int .i64 0, .int .i64 0, .int .i64 0] 28) (alloc_block (.cells #[.slice none 0 0, .int .i64 0, .int .i64 0, .int .i64 0] 28) (heap_alloc_new w (.cells #[v, .int .i64 l, .int .i64 e, .int .i64 d] 38)))
  have hR := alloc_block (.cells #[.slice none 0 0, .int .i64 0, .int .i64 0, .int .i64 0] 28) (heap_alloc_new (w.alloc (.cells #[v, .int .i64 l, .int .i64 e, .int .i64 d] 38)) (.cells #[.slice none 0 0, .int .i64 0, .int .i64 0, .int .i64 0] 28))
  rw [e1] at hR
  have hO := heap_alloc_new ((w.alloc (.cells #[v, .int .i64 l, .int .i64 e, .int .i64 d] 38)).alloc (.cells #[.slice none 0 0, .int .i64 0, .int .i64 0, .int .i64 0] 28)) (.cells #[.slice none 0 0, .int .i64 0, .int .i64 0, .int .i64 0] 28)
  rw [e2] at hO
  have HX := Lib.hid hX
  have HR := Lib.hid hR
  have HO := Lib.hid hO
  clear hX hR hO e1 e2 k0 h
  go_enter Try.func18, Try.ntmps18
  go_wp2_with fail
  go_at_call 60; refine (toSlotS_any hn hr).mono ?_; rintro x w1 ⟨u, rfl, hOu, hb⟩
  rw [e3] at hOu
  have hX1 := b_block hb HX.out (by omega)
  have hR1 := b_block hb HR.out (by omega)
  have hO1 := b_block hb HO.out (by omega)
  have k4 := k3.trans (hb.mono (by omega))
  obtain ⟨ua, uc, hu⟩ := hOu.row.form
  obtain ⟨x0, x1, x2, x3, _, _, _, _⟩ := four hX1
  obtain ⟨r0, r1, r2, r3, rf0, rf1, rf2, rf3⟩ := four hR1
  obtain ⟨o0, o1, o2, o3, of0, of1, of2, of3⟩ := four hO1
  have hF : OwnRow ((((((((w1.setCell ⟨w.heap.size + 2, 0, none⟩ u).setCell ⟨w.heap.size + 2, 1, none⟩ (.int .i64 l)).setCell ⟨w.heap.size + 2, 2, none⟩ (.int .i64 e)).setCell ⟨w.heap.size + 2, 3, none⟩ (.int .i64 d)).setCell ⟨w.heap.size + 1, 0, none⟩ u).setCell ⟨w.heap.size + 1, 1, none⟩ (.int .i64 l)).setCell ⟨w.heap.size + 1, 2, none⟩ (.int .i64 e)).setCell ⟨w.heap.size + 1, 3, none⟩ (.int .i64 d)) w.heap.size u n f :=
    ((((((((hOu.set (by omega) _ _).set (by omega) _ _).set (by omega) _ _).set (by omega) _ _).set (by omega) _ _).set (by omega) _ _).set (by omega) _ _).set (by omega) _ _).mono (by omega)
  have kF : Below w.heap.size w ((((((((w1.setCell ⟨w.heap.size + 2, 0, none⟩ u).setCell ⟨w.heap.size + 2, 1, none⟩ (.int .i64 l)).setCell ⟨w.heap.size + 2, 2, none⟩ (.int .i64 e)).setCell ⟨w.heap.size + 2, 3, none⟩ (.int .i64 d)).setCell ⟨w.heap.size + 1, 0, none⟩ u).setCell ⟨w.heap.size + 1, 1, none⟩ (.int .i64 l)).setCell ⟨w.heap.size + 1, 2, none⟩ (.int .i64 e)).setCell ⟨w.heap.size + 1, 3, none⟩ (.int .i64 d)) :=
    (((((((k4.setCell (p := ⟨w.heap.size + 2, 0, none⟩) (Nat.le_add_right _ 2) _).setCell (p := ⟨w.heap.size + 2, 1, none⟩) (Nat.le_add_right _ 2) _).setCell (p := ⟨w.heap.size + 2, 2, none⟩) (Nat.le_add_right _ 2) _).setCell (p := ⟨w.heap.size + 2, 3, none⟩) (Nat.le_add_right _ 2) _).setCell (p := ⟨w.heap.size + 1, 0, none⟩) (Nat.le_add_right _ 1) _).setCell (p := ⟨w.heap.size + 1, 1, none⟩) (Nat.le_add_right _ 1) _).setCell (p := ⟨w.heap.size + 1, 2, none⟩) (Nat.le_add_right _ 1) _).setCell (p := ⟨w.heap.size + 1, 3, none⟩) (Nat.le_add_right _ 1) _
  clear hX1 hR1 hO1 HX HR HO hb k3 k4 hOu e3 hr
  subst hu
  go_wp2
  exact bodyPost_ret (v := prV (.slice ua n uc) l e d) (by simp [results, Try.results18, go_sem, r0, r1, r2, r3]) rfl ⟨_, rfl, hF, kF⟩

set_option maxRecDepth 100000 in
set_option maxHeartbeats 1000000 in
theorem eqProc_same {v1 v2 : Value} {n : Nat} {f : Slots} (l e d : Int) {w : World} (hn : n ≤ 1048576) (h1 : RowAt w v1 n f) (h2 : RowAt w v2 n f) :
    Calls Try.prog 19 #[prV v1 l e d, prV v2 l e d] w fun x w' => x = .returned (.bool true) ∧ Below w.heap.size w w' := by
  have k0 := ((Below.refl w.heap.size w).alloc (Nat.le_refl _) (.cells #[v1, .int .i64 l, .int .i64 e, .int .i64 d] 28)).alloc (by simp) (.cells #[v2, .int .i64 l, .int .i64 e, .int .i64 d] 28)
  have r1 := h1.below k0
  have r2 := h2.below k0
  clear h1 h2
  obtain ⟨a1, c1, hv1⟩ := r1.form
  obtain ⟨a2, c2, hv2⟩ := r2.form
  have R1 := Lib.hid r1
  have R2 := Lib.hid r2
  clear r1 r2
  subst hv1 hv2
  go_enter Try.func19, Try.ntmps19
  go_wp2_with fail
  go_at_call 61; refine (eqSlotS_same hn R1.out R2.out).mono ?_; rintro x w1 ⟨rfl, hb⟩
  obtain ⟨hc, hf⟩ := bcell hb
  go_wp2
  go_ret
  exact ⟨rfl, k0.trans (hb.mono k0.size)⟩

end Go.Proofs.Ytnmaljieaflnmaa
