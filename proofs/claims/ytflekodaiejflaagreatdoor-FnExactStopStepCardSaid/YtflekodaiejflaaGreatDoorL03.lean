/-
  The laws' own helpers on a memory: measured, copied out of the law's argument, compared, marked, looked at again.
-/
import Derived.Test.YtflekodaiejflaaGreatDoorL02
import Derived.Test.YtflekodaiejflaaGreatDoorL01
import Derived.Test.YtflekodaiejflaaGreatDoorL00
namespace Go.Proofs.YtflekodaiejflaaGreatDoor
open Go.RowKit Go.Joins
set_option linter.unusedVariables false
set_option linter.unusedSimpArgs false

set_option maxRecDepth 100000 in
set_option maxHeartbeats 1000000 in
theorem szMem_ok {tv pv : Value} {M : Me} {w : World} (h : MemAt w tv pv M) (left : Int) (h1 : left ≤ 1048576) (hle : (sizeM M : Nat) ≤ left) :
    Calls Tryz.prog 5 #[meV M.c tv pv, .int .i64 left] w fun e w' => e = .returned (.int .i64 (left - (sizeM M : Nat))) ∧ Below w.heap.size w w' := by
  obtain ⟨a, cap, b, cap', rfl, rfl⟩ := h.form
  have k0 := (Below.refl w.heap.size w).alloc (Nat.le_refl _) (.cells #[.int .i64 M.c, .slice a M.tn cap, .slice b M.pn cap'] 27)
  have hsz : (sizeM M : Int) = (M.tn : Int) + ((M.pn : Int) + (slotsP M.p M.pn : Nat)) := by unfold sizeM; omega
  obtain ⟨y, hy⟩ : ∃ y : Int, y = left - (M.tn : Int) := ⟨_, rfl⟩
  obtain ⟨z, hz⟩ : ∃ z : Int, z = y - (M.pn : Int) - (slotsP M.p M.pn : Nat) := ⟨_, rfl⟩
  have hv1 : ∃ a' c', (Value.slice a M.tn cap) = .slice a' M.tn c' := ⟨_, _, rfl⟩
  have ST := fun W : World => szTimerS_is hv1 left W (by omega) h1 (by unfold maxLen; omega)
  simp only [if_neg (show ¬ left < (M.tn : Int) by omega), ← hy] at ST
  have SP := szProcS_ok (h.below k0).2 y (by omega) (by omega)
  rw [← hz] at SP
  rw [show left - (sizeM M : Nat) = z by omega]
  have d0 : decide (y < 0) = false := by simp; omega
  have d1 : decide (z < 0) = false := by simp; omega
  have HST := Lib.hid ST
  have HSP := Lib.hid SP
  clear ST SP hy hz hsz hle h1 hv1 h
  go_enter Tryz.func5, Tryz.ntmps5
  go_wp2_with fail
  go_at_call 18; refine (HST.out _).mono ?_; rintro x w1 ⟨rfl, rfl⟩
  go_wp2_with fail
  go_at_call 19; refine HSP.out.mono ?_; rintro x w2 ⟨rfl, hb⟩
  go_wp2
  go_ret
  exact ⟨rfl, k0.trans (hb.mono k0.size)⟩

set_option maxRecDepth 100000 in
set_option maxHeartbeats 1000000 in
theorem szMem_big {tv pv : Value} {M : Me} {w : World} (h : MemAt w tv pv M) (htn : M.tn ≤ maxLen) (hpn : M.pn ≤ maxLen) (hn : ∀ i, i < M.pn → (M.p i).n ≤ maxLen) (left : Int) (h0 : 0 ≤ left) (h1 : left ≤ 1048576) (hle : left < (sizeM M : Nat)) :
    Calls Tryz.prog 5 #[meV M.c tv pv, .int .i64 left] w fun e w' => e = .returned (.int .i64 (-1)) ∧ Below w.heap.size w w' := by
  obtain ⟨a, cap, b, cap', rfl, rfl⟩ := h.form
  have k0 := (Below.refl w.heap.size w).alloc (Nat.le_refl _) (.cells #[.int .i64 M.c, .slice a M.tn cap, .slice b M.pn cap'] 27)
  have hsz : (sizeM M : Int) = (M.tn : Int) + ((M.pn : Int) + (slotsP M.p M.pn : Nat)) := by unfold sizeM; omega
  have hv1 : ∃ a' c', (Value.slice a M.tn cap) = .slice a' M.tn c' := ⟨_, _, rfl⟩
  have ST := fun W : World => szTimerS_is hv1 left W h0 h1 htn
  by_cases hb : left < (M.tn : Int)
  · simp only [if_pos hb] at ST
    have HST := Lib.hid ST
    clear ST hv1 h hsz
    go_enter Tryz.func5, Tryz.ntmps5
    go_wp2_with fail
    go_at_call 18; refine (HST.out _).mono ?_; rintro x w1 ⟨rfl, rfl⟩
    go_wp2
    go_ret
    exact ⟨rfl, k0⟩
  · obtain ⟨y, hy⟩ : ∃ y : Int, y = left - (M.tn : Int) := ⟨_, rfl⟩
    simp only [if_neg hb, ← hy] at ST
    have SP := szProcS_big (h.below k0).2 hpn hn y (by omega) (by omega) (by omega)
    have d0 : decide (y < 0) = false := by simp; omega
    have HST := Lib.hid ST
    have HSP := Lib.hid SP
    clear ST SP hy hsz hle h1 hv1 h hn
    go_enter Tryz.func5, Tryz.ntmps5
    go_wp2_with fail
    go_at_call 18; refine (HST.out _).mono ?_; rintro x w1 ⟨rfl, rfl⟩
    go_wp2_with fail
    go_at_call 19; refine HSP.out.mono ?_; rintro x w2 ⟨rfl, hb⟩
    go_wp2
    go_ret
    exact ⟨rfl, k0.trans (hb.mono k0.size)⟩

/-- a call that makes a new memory -/
def NewMe (M : Me) (w : World) (e : Ending) (w' : World) : Prop := ∃ tv pv, e = .returned (meV M.c tv pv) ∧ OwnMem w' w.heap.size tv pv M ∧ Below w.heap.size w w'
theorem OwnTRow.kept1 {w w' : World} {B n : Nat} {v : Value} {f : Tms} (h : OwnTRow w B v n f) (e : ∀ g, B ≤ g → g < w.heap.size → w'.heap[g]? = w.heap[g]?) : OwnTRow w' B v n f := by
  rcases h with h | ⟨g, cap, ev, h⟩
  · exact .inl h
  · exact .inr ⟨g, cap, ev, h.block (e g h.1 h.lt)⟩
theorem OwnPRow.kept1 {w w' : World} {B m : Nat} {v : Value} {P : Pcs} (h : OwnPRow w B v m P) (e : ∀ g, B ≤ g → g < w.heap.size → w'.heap[g]? = w.heap[g]?) : OwnPRow w' B v m P := by
  rcases h with h | ⟨g, cap, V, ev, hl, hh⟩
  · exact .inl h
  · refine .inr ⟨g, cap, V, ev, hl.block (e g hl.1 hl.lt), hh.other (fun i hi x hx => e x ?_ ((hh.1 i hi).lt_size x hx))⟩
    rcases hh.1 i hi with ⟨_, ev⟩ | ⟨y, c, ev, ho⟩
    · rw [ev] at hx; simp [Value.ownBlock] at hx
    · rw [ev] at hx; simp [Value.ownBlock] at hx; subst hx; exact ho.1
theorem OwnMem.kept1 {w w' : World} {B : Nat} {tv pv : Value} {M : Me} (h : OwnMem w B tv pv M) (e : ∀ g, B ≤ g → g < w.heap.size → w'.heap[g]? = w.heap[g]?) : OwnMem w' B tv pv M := ⟨h.1.kept1 e, h.2.kept1 e⟩
theorem OwnTRow.mono' {w : World} {B B' n : Nat} {v : Value} {f : Tms} (h : OwnTRow w B v n f) (hB : B' ≤ B) : OwnTRow w B' v n f := h.mono hB
theorem OwnMem.mono {w : World} {B B' : Nat} {tv pv : Value} {M : Me} (h : OwnMem w B tv pv M) (hB : B' ≤ B) : OwnMem w B' tv pv M := ⟨h.1.mono hB, h.2.mono hB⟩

abbrev memO (c : Int) (tv pv : Value) (t : TypeId) : Obj := .cells #[.int .i64 c, tv, pv] t
set_option maxRecDepth 100000 in
set_option maxHeartbeats 2000000 in
theorem toMem_any {tv pv : Value} {M : Me} {w : World} (hs : sizeM M ≤ 1048576) (h : MemAt w tv pv M) :
    Calls Tryz.prog 8 #[meV M.c tv pv] w (NewMe M w) := by
  obtain ⟨htn, hpn, hsl, hn⟩ := sizeM_le hs
  obtain ⟨a, cap, b, cap', rfl, rfl⟩ := h.form
  have k0 := (Below.refl w.heap.size w).alloc (Nat.le_refl _) (memO M.c (.slice a M.tn cap) (.slice b M.pn cap') 27)
  have e1 : (w.alloc (memO M.c (.slice a M.tn cap) (.slice b M.pn cap') 27)).heap.size = w.heap.size + 1 := by simp
  have k1 := k0.alloc (by omega) (memO 0 (.slice none 0 0) (.slice none 0 0) 36)
  have e2 : ((w.alloc (memO M.c (.slice a M.tn cap) (.slice b M.pn cap') 27)).alloc (memO 0 (.slice none 0 0) (.slice none 0 0) 36)).heap.size = w.heap.size + 1 + 1 := by simp
  have k2 := k1.alloc (by omega) (memO 0 (.slice none 0 0) (.slice none 0 0) 36)
  have e3 : (((w.alloc (memO M.c (.slice a M.tn cap) (.slice b M.pn cap') 27)).alloc (memO 0 (.slice none 0 0) (.slice none 0 0) 36)).alloc (memO 0 (.slice none 0 0) (.slice none 0 0) 36)).heap.size = w.heap.size + 1 + 1 + 1 := by simp
  have hA := alloc_block (memO 0 (.slice none 0 0) (.slice none 0 0) 36) (alloc_block (memO 0 (.slice none 0 0) (.slice none 0 0) 36) (heap_alloc_new w (memO M.c (.slice a M.tn cap) (.slice b M.pn cap') 27)))
  have hR := alloc_block (memO 0 (.slice none 0 0) (.slice none 0 0) 36) (heap_alloc_new (w.alloc (memO M.c (.slice a M.tn cap) (.slice b M.pn cap') 27)) (memO 0 (.slice none 0 0) (.slice none 0 0) 36))
  rw [e1] at hR
  have hX := heap_alloc_new ((w.alloc (memO M.c (.slice a M.tn cap) (.slice b M.pn cap') 27)).alloc (memO 0 (.slice none 0 0) (.slice none 0 0) 36)) (memO 0 (.slice none 0 0) (.slice none 0 0) 36)
  rw [e2] at hX
  generalize hW3 : ((w.alloc (memO M.c (.slice a M.tn cap) (.slice b M.pn cap') 27)).alloc (memO 0 (.slice none 0 0) (.slice none 0 0) 36)).alloc (memO 0 (.slice none 0 0) (.slice none 0 0) 36) = W3 at k2 e3 hA hR hX
  have HM0 := Lib.hid h
  -- the clock is stored
  have hX1 : (W3.setCell ⟨w.heap.size + 1 + 1, 0, none⟩ (.int .i64 M.c)).heap[w.heap.size + 1 + 1]? = some (memO M.c (.slice none 0 0) (.slice none 0 0) 36) := block_setCell (i := 0) hX _
  have hA1 : (W3.setCell ⟨w.heap.size + 1 + 1, 0, none⟩ (.int .i64 M.c)).heap[w.heap.size]? = _ := (Below.heap_setCell W3 ⟨w.heap.size + 1 + 1, 0, none⟩ _ w.heap.size (show w.heap.size ≠ w.heap.size + 1 + 1 by omega)).trans hA
  have hR1 : (W3.setCell ⟨w.heap.size + 1 + 1, 0, none⟩ (.int .i64 M.c)).heap[w.heap.size + 1]? = _ := (Below.heap_setCell W3 ⟨w.heap.size + 1 + 1, 0, none⟩ _ (w.heap.size + 1) (show w.heap.size + 1 ≠ w.heap.size + 1 + 1 by omega)).trans hR
  have k3 : Below w.heap.size w (W3.setCell ⟨w.heap.size + 1 + 1, 0, none⟩ (.int .i64 M.c)) := k2.setCell (p := ⟨w.heap.size + 1 + 1, 0, none⟩) (show w.heap.size ≤ w.heap.size + 1 + 1 by omega) _
  have e4 : (W3.setCell ⟨w.heap.size + 1 + 1, 0, none⟩ (.int .i64 M.c)).heap.size = w.heap.size + 1 + 1 + 1 := by simp [e3]
  obtain ⟨x0, x1, x2, xf0, xf1, xf2⟩ := three hX
  obtain ⟨a0, a1, a2, _, _, _⟩ := three hA
  clear k0 k1 k2 e1 e2 hA hR hX h
  go_enter Tryz.func8, Tryz.ntmps8
  go_wp2_with fail
  clear hW3
  clear x0 x1 x2 xf0 xf1 xf2 a0 a1 a2 e3
  generalize (W3.setCell ⟨w.heap.size + 1 + 1, 0, none⟩ (.int .i64 M.c)) = W4 at hX1 hA1 hR1 k3 e4 ⊢
  go_at_call 23; refine (toTimerS_any htn (HM0.out.below k3).1).mono ?_; rintro x w1 ⟨u, rfl, hT, hb⟩
  have k4 := k3.trans (hb.mono (by omega))
  have hX2 := b_block hb hX1 (by omega)
  have hA2 := b_block hb hA1 (by omega)
  have hR2 := b_block hb hR1 (by omega)
  have hs1 := hb.size
  rw [e4] at hT hs1
  obtain ⟨ua, uc, hu⟩ := hT.row.form
  subst hu
  have hX3 : (w1.setCell ⟨w.heap.size + 1 + 1, 1, none⟩ (.slice ua M.tn uc)).heap[w.heap.size + 1 + 1]? = some (memO M.c (.slice ua M.tn uc) (.slice none 0 0) 36) := block_setCell (i := 1) hX2 _
  have hA3 : (w1.setCell ⟨w.heap.size + 1 + 1, 1, none⟩ (.slice ua M.tn uc)).heap[w.heap.size]? = _ := (Below.heap_setCell w1 ⟨w.heap.size + 1 + 1, 1, none⟩ _ w.heap.size (show w.heap.size ≠ w.heap.size + 1 + 1 by omega)).trans hA2
  have hR3 : (w1.setCell ⟨w.heap.size + 1 + 1, 1, none⟩ (.slice ua M.tn uc)).heap[w.heap.size + 1]? = _ := (Below.heap_setCell w1 ⟨w.heap.size + 1 + 1, 1, none⟩ _ (w.heap.size + 1) (show w.heap.size + 1 ≠ w.heap.size + 1 + 1 by omega)).trans hR2
  have k5 : Below w.heap.size w (w1.setCell ⟨w.heap.size + 1 + 1, 1, none⟩ (.slice ua M.tn uc)) := k4.setCell (p := ⟨w.heap.size + 1 + 1, 1, none⟩) (show w.heap.size ≤ w.heap.size + 1 + 1 by omega) _
  have hT3 : OwnTRow (w1.setCell ⟨w.heap.size + 1 + 1, 1, none⟩ (.slice ua M.tn uc)) (w.heap.size + 1 + 1 + 1) (.slice ua M.tn uc) M.tn M.t := hT.set (b := w.heap.size + 1 + 1) (by omega) 1 _
  have e5 : (w1.setCell ⟨w.heap.size + 1 + 1, 1, none⟩ (.slice ua M.tn uc)).heap.size = w1.heap.size := by simp
  obtain ⟨x0, x1, x2, xf0, xf1, xf2⟩ := three hX2
  obtain ⟨a0, a1, a2, _, _, _⟩ := three hA2
  clear hb hX1 hA1 hR1 hX2 hA2 hR2 k3 k4 hT e4
  go_wp2_with fail
  clear x0 x1 x2 xf0 xf1 xf2 a0 a1 a2
  generalize (w1.setCell ⟨w.heap.size + 1 + 1, 1, none⟩ (.slice ua M.tn uc)) = W5 at hX3 hA3 hR3 k5 hT3 e5 ⊢
  go_at_call 24; refine (toProcS_any hpn hn (HM0.out.below k5).2).mono ?_; rintro x w2 ⟨y, rfl, hP, hb⟩
  have k6 := k5.trans (hb.mono (by omega))
  have hX4 := b_block hb hX3 (by omega)
  have hR4 := b_block hb hR3 (by omega)
  have hT4 := hT3.below hb
  replace hP := hP.mono (B' := w.heap.size + 1 + 1 + 1) (by omega)
  obtain ⟨ya, yc, hy⟩ := hP.row.form
  subst hy
  have hTF : OwnTRow ((((w2.setCell ⟨w.heap.size + 1 + 1, 2, none⟩ (.slice ya M.pn yc)).setCell ⟨w.heap.size + 1, 0, none⟩ (.int .i64 M.c)).setCell ⟨w.heap.size + 1, 1, none⟩ (.slice ua M.tn uc)).setCell ⟨w.heap.size + 1, 2, none⟩ (.slice ya M.pn yc)) (w.heap.size + 1 + 1 + 1) (.slice ua M.tn uc) M.tn M.t := (((hT4.set (b := w.heap.size + 1 + 1) (by omega) 2 _).set (b := w.heap.size + 1) (by omega) 0 _).set (b := w.heap.size + 1) (by omega) 1 _).set (b := w.heap.size + 1) (by omega) 2 _
  have hPF : OwnPRow ((((w2.setCell ⟨w.heap.size + 1 + 1, 2, none⟩ (.slice ya M.pn yc)).setCell ⟨w.heap.size + 1, 0, none⟩ (.int .i64 M.c)).setCell ⟨w.heap.size + 1, 1, none⟩ (.slice ua M.tn uc)).setCell ⟨w.heap.size + 1, 2, none⟩ (.slice ya M.pn yc)) (w.heap.size + 1 + 1 + 1) (.slice ya M.pn yc) M.pn M.p := hP.kept1 (fun g h1 _ =>
    (Below.heap_setCell (((w2.setCell ⟨w.heap.size + 1 + 1, 2, none⟩ (.slice ya M.pn yc)).setCell ⟨w.heap.size + 1, 0, none⟩ (.int .i64 M.c)).setCell ⟨w.heap.size + 1, 1, none⟩ (.slice ua M.tn uc)) ⟨w.heap.size + 1, 2, none⟩ _ g (show g ≠ w.heap.size + 1 by omega)).trans ((Below.heap_setCell ((w2.setCell ⟨w.heap.size + 1 + 1, 2, none⟩ (.slice ya M.pn yc)).setCell ⟨w.heap.size + 1, 0, none⟩ (.int .i64 M.c)) ⟨w.heap.size + 1, 1, none⟩ _ g (show g ≠ w.heap.size + 1 by omega)).trans ((Below.heap_setCell (w2.setCell ⟨w.heap.size + 1 + 1, 2, none⟩ (.slice ya M.pn yc)) ⟨w.heap.size + 1, 0, none⟩ _ g (show g ≠ w.heap.size + 1 by omega)).trans (Below.heap_setCell w2 ⟨w.heap.size + 1 + 1, 2, none⟩ _ g (show g ≠ w.heap.size + 1 + 1 by omega)))))
  have kF : Below w.heap.size w ((((w2.setCell ⟨w.heap.size + 1 + 1, 2, none⟩ (.slice ya M.pn yc)).setCell ⟨w.heap.size + 1, 0, none⟩ (.int .i64 M.c)).setCell ⟨w.heap.size + 1, 1, none⟩ (.slice ua M.tn uc)).setCell ⟨w.heap.size + 1, 2, none⟩ (.slice ya M.pn yc)) := (((k6.setCell (p := ⟨w.heap.size + 1 + 1, 2, none⟩) (show w.heap.size ≤ w.heap.size + 1 + 1 by omega) _).setCell (p := ⟨w.heap.size + 1, 0, none⟩) (show w.heap.size ≤ w.heap.size + 1 by omega) _).setCell (p := ⟨w.heap.size + 1, 1, none⟩) (show w.heap.size ≤ w.heap.size + 1 by omega) _).setCell (p := ⟨w.heap.size + 1, 2, none⟩) (show w.heap.size ≤ w.heap.size + 1 by omega) _
  obtain ⟨x0, x1, x2, xf0, xf1, xf2⟩ := three hX4
  obtain ⟨r0, r1, r2, rf0, rf1, rf2⟩ := three hR4
  clear hb hX3 hA3 hR3 hX4 hR4 k5 k6 hT3 hT4 hP e5
  go_wp2
  exact bodyPost_ret (v := meV M.c (.slice ua M.tn uc) (.slice ya M.pn yc)) (by simp [results, Tryz.results8, go_sem, r0, r1, r2]) rfl ⟨_, _, rfl, ⟨hTF.mono (by omega), hPF.mono (by omega)⟩, kF⟩

set_option maxRecDepth 100000 in
set_option maxHeartbeats 1000000 in
theorem eqMem_same {tv1 pv1 tv2 pv2 : Value} {M : Me} {w : World} (hs : sizeM M ≤ 1048576) (h1 : MemAt w tv1 pv1 M) (h2 : MemAt w tv2 pv2 M) :
    Calls Tryz.prog 12 #[meV M.c tv1 pv1, meV M.c tv2 pv2] w fun x w' => x = .returned (.bool true) ∧ Below w.heap.size w w' := by
  obtain ⟨htn, hpn, hsl, hn⟩ := sizeM_le hs
  obtain ⟨a1, c1, b1, d1, rfl, rfl⟩ := h1.form
  obtain ⟨a2, c2, b2, d2, rfl, rfl⟩ := h2.form
  have k0 := ((Below.refl w.heap.size w).alloc (Nat.le_refl _) (memO M.c (.slice a1 M.tn c1) (.slice b1 M.pn d1) 36)).alloc (by simp) (memO M.c (.slice a2 M.tn c2) (.slice b2 M.pn d2) 36)
  have R1 := h1.below k0
  have R2 := h2.below k0
  have H1 := Lib.hid R1
  have H2 := Lib.hid R2
  clear h1 h2 R1 R2
  go_enter Tryz.func12, Tryz.ntmps12
  go_wp2_with fail
  go_at_call 30; refine (eqTimerS_same htn H1.out.1 H2.out.1).mono ?_; rintro x w1 ⟨rfl, hb⟩
  obtain ⟨hc, hf⟩ := bcell hb
  have k1 := k0.trans (hb.mono k0.size)
  have P1 := H1.out.2.below hb
  have P2 := H2.out.2.below hb
  have HP1 := Lib.hid P1
  have HP2 := Lib.hid P2
  clear P1 P2
  go_wp2_with fail
  go_at_call 31; refine (eqProcS_same hpn hn HP1.out HP2.out).mono ?_; rintro x w2 ⟨rfl, hb2⟩
  have k2 := k1.trans (hb2.mono k1.size)
  clear hb hb2 hc hf
  go_wp2
  go_ret
  exact ⟨rfl, k2⟩

/-! ### marked, and looked at again -/
def markMe (M : Me) (q : Int) : Me := ⟨M.c, M.tn, markT M.t q M.tn, M.pn, markP M.p (q + 8 * (M.tn : Int)) M.pn⟩
def markEnd (M : Me) (q : Int) : Int := markAt M.p (q + 8 * (M.tn : Int)) M.pn
theorem markEnd_le {M : Me} {q : Int} (h : sizeM M ≤ 1048576) (h1 : q ≤ 4194304) : markEnd M q ≤ 16777216 := by
  unfold markEnd markAt
  unfold sizeM at h
  omega
theorem markEnd_ge {M : Me} {q : Int} : q ≤ markEnd M q := by
  unfold markEnd markAt
  omega

set_option maxHeartbeats 400000 in
theorem markTimerS_nil (m : Int) (w : World) :
    Calls Tryz.prog 32 #[.slice none 0 0, .int .i64 m] w fun e w' => e = .returned (.int .i64 m) ∧ w = w' := by
  go_enter Tryz.func32, Tryz.ntmps32
  go_wp2
  go_loop [1, 5] (fun q i => i = .int .i64 0 ∧ q = .int .i64 m) (fun _ _ => 0)
  case atStart => exact ⟨rfl, rfl⟩
  case round =>
    obtain ⟨rfl, rfl⟩ := hrel
    go_wp2
    go_ret
    exact ⟨rfl, rfl⟩
theorem markTRow_any {B C n : Nat} {v : Value} {f : Tms} {w : World} (m : Int) (hm0 : 0 ≤ m) (hm1 : m ≤ 16777216) (hn : n ≤ 1048576) (h : OwnTIn w B C v n f) :
    Calls Tryz.prog 32 #[v, .int .i64 m] w fun e w' => e = .returned (.int .i64 (m + 8 * n)) ∧ OwnTIn w' B C v n (markT f m n) ∧ Mid B C w w' ∧ KeepsBut [80] w w' := by
  rcases h with ⟨rfl, rfl⟩ | ⟨g, cap, rfl, h, hg⟩
  · refine (markTimerS_nil m w).mono fun e w' ⟨he, hw⟩ => ?_
    subst he; subst hw
    exact ⟨by simp, .inl ⟨rfl, rfl⟩, Mid.refl _ _ _, KeepsBut.refl _ _⟩
  · have hB := h.1
    obtain ⟨_, _, _, cur, hh, _⟩ := id h
    refine (markTimerS_any m hm0 hm1 hn h).mono fun e w' ⟨he, ho, hgr⟩ => ?_
    exact ⟨he, .inr ⟨g, cap, rfl, ho, hg⟩, Mid.of_grown hgr (fun x hx => by injection hx with hx; omega), KeepsBut.of_grown hgr (fun x hx => by injection hx with hx; subst hx; exact ⟨cur, _, hh, by decide⟩)⟩
theorem markPRow_any {B C m : Nat} {v : Value} {P : Pcs} {w : World} (q : Int) (hq0 : 0 ≤ q) (hq1 : q + 2 * (slotsP P m : Nat) + 3 * (m : Int) ≤ 16777216) (hn : ∀ i, i < m → (P i).n ≤ 1048576) (hm : m ≤ 1048576) (h : OwnPIn w B C v m P) :
    Calls Tryz.prog 33 #[v, .int .i64 q] w fun e w' => e = .returned (.int .i64 (markAt P q m)) ∧ OwnPIn w' B C v m (markP P q m) ∧ Mid B C w w' ∧ KeepsBut [83, 133] w w' := by
  rcases h with ⟨rfl, rfl⟩ | ⟨g, cap, V, rfl, h, hg, hV⟩
  · refine (markProcS_nil q w).mono fun e w' ⟨he, hw⟩ => ?_
    subst he; subst hw
    exact ⟨by simp [markAt, slotsP], .inl ⟨rfl, rfl⟩, Mid.refl _ _ _, KeepsBut.refl _ _⟩
  · refine (markProcS_any q hq0 hq1 hn hm h.1 h.2 hg hV).mono fun e w' ⟨he, hl, hh, hm, hk⟩ => ?_
    exact ⟨he, .inr ⟨g, cap, V, rfl, ⟨hl, hh⟩, hg, hV⟩, hm, hk⟩
theorem OwnTIn.keeps {w w' : World} {B C n : Nat} {v : Value} {f : Tms} {T : List TypeId} (h : OwnTIn w B C v n f) (hk : KeepsBut T w w') (ht : 80 ∉ T) : OwnTIn w' B C v n f := by
  rcases h with h | ⟨g, cap, e, h, hg⟩
  · exact .inl h
  · obtain ⟨_, _, _, cur, hh, _⟩ := id h
    exact .inr ⟨g, cap, e, h.block (hk g cur _ hh ht), hg⟩
theorem OwnPIn.keeps {w w' : World} {B C m : Nat} {v : Value} {P : Pcs} {T : List TypeId} (h : OwnPIn w B C v m P) (hk : KeepsBut T w w') (h1 : 83 ∉ T) (h2 : 133 ∉ T) : OwnPIn w' B C v m P := by
  rcases h with h | ⟨g, cap, V, e, ⟨hl, hh⟩, hg, hV⟩
  · exact .inl h
  · obtain ⟨cs, hcs⟩ := hl.typed
    refine .inr ⟨g, cap, V, e, ⟨hl.block (hk g cs _ hcs h1), hh.other (fun i hi x hx => ?_)⟩, hg, hV⟩
    rcases hh.1 i hi with ⟨_, ev⟩ | ⟨y, c, ev, ho⟩
    · rw [ev] at hx; simp [Value.ownBlock] at hx
    · rw [ev] at hx; simp [Value.ownBlock] at hx; subst hx
      obtain ⟨_, _, _, cur, hc, _⟩ := ho
      exact hk y cur _ hc h2

set_option maxRecDepth 100000 in
set_option maxHeartbeats 1000000 in
theorem markMem_any {B C : Nat} {tv pv : Value} {M : Me} {w : World} (q : Int) (hq0 : 0 ≤ q) (hq1 : q ≤ 4194304) (hs : sizeM M ≤ 1048576) (h : OwnMemIn w B C tv pv M) (hC : C ≤ w.heap.size) :
    Calls Tryz.prog 13 #[meV M.c tv pv, .int .i64 q] w fun x w' => x = .returned (.int .i64 (markEnd M q)) ∧ OwnMemIn w' B C tv pv (markMe M q) ∧ Mid B C w w' := by
  obtain ⟨htn, hpn, hsl, hn⟩ := sizeM_le hs
  have hat := h.range.at hC
  obtain ⟨a, c1, b, c2, rfl, rfl⟩ := hat.form
  have k0 := (Below.refl w.heap.size w).alloc (Nat.le_refl _) (memO M.c (.slice a M.tn c1) (.slice b M.pn c2) 36)
  have hq2 : (q + 8 * (M.tn : Int)) + 2 * (slotsP M.p M.pn : Nat) + 3 * (M.pn : Int) ≤ 16777216 := by unfold sizeM at hs; omega
  have h0 := h.keep (Same.of_below k0 hC)
  have hAv := heap_alloc_new w (memO M.c (.slice a M.tn c1) (.slice b M.pn c2) 36)
  have M0 : Mid B C w (w.alloc (memO M.c (.slice a M.tn c1) (.slice b M.pn c2) 36)) := Mid.of_below k0
  have H0 := Lib.hid h0
  obtain ⟨a0, a1, a2, _, _, _⟩ := three hAv
  clear h h0 hat hs hsl
  go_enter Tryz.func13, Tryz.ntmps13
  go_wp2_with fail
  go_at_call 32; refine (markTRow_any q hq0 (by omega) htn H0.out.1).mono ?_; rintro x w1 ⟨rfl, hT1, hM1, hK1⟩
  have hP1 := H0.out.2.keeps hK1 (by decide) (by decide)
  have hA1 : w1.heap[w.heap.size]? = _ := (hK1 w.heap.size _ _ hAv (by decide)).trans hAv
  have M1 := M0.trans hM1
  clear a0 a1 a2 hAv hK1 hM1 M0
  obtain ⟨a0, a1, a2, _, _, _⟩ := three hA1
  go_wp2_with fail
  go_at_call 33; refine (markPRow_any (q + 8 * (M.tn : Int)) (by omega) hq2 hn hpn hP1).mono ?_; rintro x w2 ⟨rfl, hP2, hM2, hK2⟩
  have hT2 := hT1.keeps hK2 (by decide)
  have M2 := M1.trans hM2
  clear a0 a1 a2 hA1 hK2 hM2 M1 hT1 hP1 hq2
  go_wp2
  go_ret
  exact ⟨rfl, ⟨hT2, hP2⟩, M2⟩

set_option maxRecDepth 100000 in
set_option maxHeartbeats 1000000 in
theorem heldMem_any {tv pv : Value} {M : Me} {w : World} (q : Int) (hq0 : 0 ≤ q) (hq1 : q ≤ 4194304) (hs : sizeM M ≤ 1048576) (h : MemAt w tv pv (markMe M q)) :
    Calls Tryz.prog 34 #[meV M.c tv pv, .int .i64 q] w fun x w' => x = .returned (.int .i64 (markEnd M q)) ∧ Below w.heap.size w w' := by
  obtain ⟨htn, hpn, hsl, hn⟩ := sizeM_le hs
  obtain ⟨a, c1, b, c2, rfl, rfl⟩ : ∃ a cap b cap', tv = .slice a M.tn cap ∧ pv = .slice b M.pn cap' := h.form
  have k0 := (Below.refl w.heap.size w).alloc (Nat.le_refl _) (memO M.c (.slice a M.tn c1) (.slice b M.pn c2) 36)
  have hq2 : (q + 8 * (M.tn : Int)) + 2 * (slotsP M.p M.pn : Nat) + 3 * (M.pn : Int) ≤ 16777216 := by unfold sizeM at hs; omega
  have h0 := h.below k0
  have d0 : decide (q + 8 * (M.tn : Int) < 0) = false := by simp; omega
  have d1 : decide (markEnd M q < 0) = false := by have := @markEnd_ge M q; simp; omega
  have HT := Lib.hid (heldTimerS_any q hq0 (by omega) htn h0.1)
  have HP := Lib.hid (heldProcS_any (q + 8 * (M.tn : Int)) (by omega) hq2 hn hpn h0.2)
  clear h h0 hs hsl
  go_enter Tryz.func34, Tryz.ntmps34
  go_wp2_with fail
  go_at_call 55; refine HT.out.mono ?_; rintro x w1 ⟨rfl, rfl⟩
  go_wp2_with fail
  go_at_call 56; refine HP.out.mono ?_; rintro x w1 ⟨rfl, rfl⟩
  unfold markEnd at d1
  go_wp2
  go_ret
  exact ⟨rfl, k0⟩

end Go.Proofs.YtflekodaiejflaaGreatDoor

/-
  A new memory (spec, chapter 5).
-/
namespace Go.Proofs.YtflekodaiejflaaGreatDoor
open Go.RowKit Go.Joins
set_option linter.unusedVariables false
set_option linter.unusedSimpArgs false

/-- the zero memory -/
def me0 : Me := ⟨0, 0, fun _ => tm0, 0, fun _ => pc0⟩
/-- a new one -/
def newM (a b c : Int) : Me := if planB a b c then ⟨0, 0, fun _ => tm0, a.toNat, fun _ => ⟨0, fun _ => (0, 0), -1, -1, 0⟩⟩ else me0
theorem own_me0 (w : World) (B : Nat) : OwnMem w B (.slice none 0 0) (.slice none 0 0) me0 := ⟨.inl ⟨rfl, rfl⟩, .inl ⟨rfl, rfl⟩⟩

/-- a value that a variable of the call's own holds, and which is answered through the block of the answer -/
theorem OwnTRow.set3 {w : World} {B n b : Nat} {v : Value} {f : Tms} (h : OwnTRow w B v n f) (hb : b < B) (x y z : Value) :
    OwnTRow (((w.setCell ⟨b, 0, none⟩ x).setCell ⟨b, 1, none⟩ y).setCell ⟨b, 2, none⟩ z) B v n f := ((h.set hb 0 x).set hb 1 y).set hb 2 z
theorem set_same {w : World} {B b : Nat} (hb : b < B) (o : Nat) (x : Value) : ∀ g, B ≤ g → (w.setCell ⟨b, o, none⟩ x).heap[g]? = w.heap[g]? :=
  fun g hg => Below.heap_setCell w ⟨b, o, none⟩ x g (show g ≠ b by omega)
theorem OwnPRow.set3 {w : World} {B m b : Nat} {v : Value} {P : Pcs} (h : OwnPRow w B v m P) (hb : b < B) (x y z : Value) :
    OwnPRow (((w.setCell ⟨b, 0, none⟩ x).setCell ⟨b, 1, none⟩ y).setCell ⟨b, 2, none⟩ z) B v m P :=
  h.kept1 fun g hg _ => (set_same hb 2 z g hg).trans ((set_same hb 1 y g hg).trans (set_same hb 0 x g hg))
theorem OwnMem.set3 {w : World} {B b : Nat} {tv pv : Value} {M : Me} (h : OwnMem w B tv pv M) (hb : b < B) (x y z : Value) :
    OwnMem (((w.setCell ⟨b, 0, none⟩ x).setCell ⟨b, 1, none⟩ y).setCell ⟨b, 2, none⟩ z) B tv pv M := ⟨h.1.set3 hb x y z, h.2.set3 hb x y z⟩
theorem b_set3 {W w : World} {n g : Nat} (h : Below n W w) (hg : n ≤ g) (x y z : Value) : Below n W (((w.setCell ⟨g, 0, none⟩ x).setCell ⟨g, 1, none⟩ y).setCell ⟨g, 2, none⟩ z) :=
  ((h.setCell (p := ⟨g, 0, none⟩) hg x).setCell (p := ⟨g, 1, none⟩) hg y).setCell (p := ⟨g, 2, none⟩) hg z
/-- the new processors, as many as there are yet -/
def newP : Pcs := fun _ => ⟨0, fun _ => (0, 0), -1, -1, 0⟩

end Go.Proofs.YtflekodaiejflaaGreatDoor

/-
  errors.As at what the program hands it (chapter 10).
-/
namespace Go.Proofs.YtflekodaiejflaaGreatDoor
open Go.RowKit Go.Joins Go.Extern.Stop Go.Stop Go.Extern
set_option linter.unusedVariables false
set_option linter.unusedSimpArgs false

/-! ### errors.As: the model's entries, at this program's types -/
theorem asValueOf (t : Addr) (w : World) : (ReflectliteValue.unpack (.iface 120 (.pointer (some t)))).run Tryz.prog w = .ok (.agg #[.pointer (some ⟨4, 120, none⟩), .pointer (some ⟨w.heap.size, 0, none⟩), .int .u64 150]) (w.alloc (.cells #[.pointer (some t)] 120)) := by kernel_rfl
theorem asType (a : Addr) (w : World) : (ReflectliteValue.methodAny (ReflectliteValue.valueError "reflectlite.Value.Type" 0) (fun t _ _ _ => ReflectliteType.toType t) #[.agg #[.pointer (some ⟨4, 120, none⟩), .pointer (some a), .int .u64 150]]).run Tryz.prog w = .ok (.iface 173 (.agg #[.pointer (some ⟨4, 120, none⟩)])) w := by kernel_rfl
theorem asMKind (v : Value) (w : World) : (Go.method 332 173 (.agg #[v]) "Kind").run Tryz.prog w = .ok (189, v) w := by kernel_rfl
theorem asKindP (w : World) : ((ReflectliteType.abiMethod fun t => (fun a : Nat => Value.int IntKind.u8 (a : Int)) <$> Rtype.kind t) #[.pointer (some ⟨4, 120, none⟩)]).run Tryz.prog w = .ok (.int .u8 22) w := by kernel_rfl
theorem asKindS (w : World) : ((ReflectliteType.abiMethod fun t => (fun a : Nat => Value.int IntKind.u8 (a : Int)) <$> Rtype.kind t) #[.pointer (some ⟨4, 116, none⟩)]).run Tryz.prog w = .ok (.int .u8 25) w := by kernel_rfl
theorem asParts (a : Addr) (w : World) : (ReflectliteValue.parts (.agg #[.pointer (some ⟨4, 120, none⟩), .pointer (some a), .int .u64 150])).run Tryz.prog w = .ok (some (120, a, 150)) w := by kernel_rfl
theorem asIsNil (a p : Addr) (W : World) (ha : W.cell? a = some (.pointer (some p))) :
    (ReflectliteValue.method (ReflectliteValue.valueError "reflectlite.Value.IsNil" 0) ReflectliteValue.isNil #[.agg #[.pointer (some ⟨4, 120, none⟩), .pointer (some a), .int .u64 150]]).run Tryz.prog W = .ok (.bool false) W := by
  change (ReflectliteValue.parts (.agg #[.pointer (some ⟨4, 120, none⟩), .pointer (some a), .int .u64 150]) >>= _).run Tryz.prog W = _
  simp only [Sem.run_bind, asParts, Result.andThen]
  simp [ReflectliteValue.isNil, loadVar, isAgg, underlying, Tryz.underlying120, ha, Result.andThen]
theorem asMElem (v : Value) (w : World) : (Go.method 332 173 (.agg #[v]) "Elem").run Tryz.prog w = .ok (201, .agg #[v]) w := by kernel_rfl
theorem asMImplements (v : Value) (w : World) : (Go.method 332 173 (.agg #[v]) "Implements").run Tryz.prog w = .ok (202, .agg #[v]) w := by kernel_rfl
theorem asMAssignableTo (v : Value) (w : World) : (Go.method 332 173 (.agg #[v]) "AssignableTo").run Tryz.prog w = .ok (199, .agg #[v]) w := by kernel_rfl
theorem asElem (w : World) : (ReflectliteType.method ReflectliteType.elem #[.agg #[.pointer (some ⟨4, 120, none⟩)]]).run Tryz.prog w = .ok (.iface 173 (.agg #[.pointer (some ⟨4, 116, none⟩)])) w := by kernel_rfl
theorem asImplements (w : World) : (ReflectliteType.relation "Implements" ReflectliteType.implements_ #[.agg #[.pointer (some ⟨4, 116, none⟩)], .iface 173 (.agg #[.pointer (some ⟨4, 112, none⟩)])]).run Tryz.prog w = .ok (.bool true) w := by kernel_rfl
theorem asAssignableS (w : World) : (ReflectliteType.relation "AssignableTo" ReflectliteType.assignableTo #[.agg #[.pointer (some ⟨4, 116, none⟩)], .iface 173 (.agg #[.pointer (some ⟨4, 116, none⟩)])]).run Tryz.prog w = .ok (.bool true) w := by kernel_rfl
theorem asAssignableE (w : World) : (ReflectliteType.relation "AssignableTo" ReflectliteType.assignableTo #[.agg #[.pointer (some ⟨4, 199, none⟩)], .iface 173 (.agg #[.pointer (some ⟨4, 116, none⟩)])]).run Tryz.prog w = .ok (.bool false) w := by kernel_rfl
theorem asValueOfS (s : Int) (c : Addr) (w : World) : (ReflectliteValue.unpack (seI s c)).run Tryz.prog w = .ok (.agg #[.pointer (some ⟨4, 116, none⟩), .pointer (some ⟨w.heap.size, 0, none⟩), .int .u64 153]) (w.alloc (.cells #[.int .i64 s, esI c] 116)) := by kernel_rfl
theorem asElemOf (w : World) : (Rtype.elem? 120).run Tryz.prog w = .ok (some 116) w := by kernel_rfl
theorem asMk (p : Addr) (w : World) : (ReflectliteValue.mk 116 p ReflectliteValue.flagAddr).run Tryz.prog w = .ok (.agg #[.pointer (some ⟨4, 116, none⟩), .pointer (some p), .int .u64 409]) w := by kernel_rfl
theorem asElemV (a p : Addr) (W : World) (ha : W.cell? a = some (.pointer (some p))) :
    (ReflectliteValue.method (ReflectliteValue.valueError "reflectlite.Value.Elem" 0) ReflectliteValue.elem #[.agg #[.pointer (some ⟨4, 120, none⟩), .pointer (some a), .int .u64 150]]).run Tryz.prog W = .ok (.agg #[.pointer (some ⟨4, 116, none⟩), .pointer (some p), .int .u64 409]) W := by
  change (ReflectliteValue.parts (.agg #[.pointer (some ⟨4, 120, none⟩), .pointer (some a), .int .u64 150]) >>= _).run Tryz.prog W = _
  simp only [Sem.run_bind, asParts, Result.andThen]
  simp [ReflectliteValue.elem, loadVar, isAgg, underlying, Tryz.underlying120, ha, Result.andThen, asElemOf, asMk]
theorem asPartsA (a : Addr) (w : World) : (ReflectliteValue.parts (.agg #[.pointer (some ⟨4, 116, none⟩), .pointer (some a), .int .u64 409])).run Tryz.prog w = .ok (some (116, a, 409)) w := by kernel_rfl
theorem asPartsS (a : Addr) (w : World) : (ReflectliteValue.parts (.agg #[.pointer (some ⟨4, 116, none⟩), .pointer (some a), .int .u64 153])).run Tryz.prog w = .ok (some (116, a, 153)) w := by kernel_rfl
theorem asDirect (w : World) : (Rtype.directlyAssignable 116 116).run Tryz.prog w = .ok true w := by kernel_rfl
theorem asSize (w : World) : (sizeOf 116).run Tryz.prog w = .ok 2 w := by kernel_rfl
/-- (Value).Set: the variable at 'tb' gets what the Value's own variable at 'b' holds -/
theorem asSet (tb b : Nat) (s : Int) (c : Addr) {x0 x1 : Value} {W : World} (hb : W.heap[b]? = some (.cells #[.int .i64 s, esI c] 116 (0, 0))) (ht : W.heap[tb]? = some (.cells #[x0, x1] 116 (0, 0))) :
    (ReflectliteValue.set #[.agg #[.pointer (some ⟨4, 116, none⟩), .pointer (some ⟨tb, 0, none⟩), .int .u64 409], .agg #[.pointer (some ⟨4, 116, none⟩), .pointer (some ⟨b, 0, none⟩), .int .u64 153]]).run Tryz.prog W
      = .ok (.tuple #[]) ((W.setCell ⟨tb, 0, none⟩ (.int .i64 s)).setCell ⟨tb, 1, none⟩ (esI c)) := by
  have b0 := cell_of_block hb 0
  have b1 := cell_of_block hb 1
  have t0 := cell_of_block ht 0
  have u0 := unfrozen_of_block ht 0
  have h1 := block_setCell (i := 0) ht (.int .i64 s)
  have t1 := cell_of_block h1 1
  have u1 := unfrozen_of_block h1 1
  change (ReflectliteValue.parts (.agg #[.pointer (some ⟨4, 116, none⟩), .pointer (some ⟨tb, 0, none⟩), .int .u64 409]) >>= _).run Tryz.prog W = _
  rw [Sem.run_bind, asPartsA, Result.andThen]
  change (ReflectliteValue.parts (.agg #[.pointer (some ⟨4, 116, none⟩), .pointer (some ⟨b, 0, none⟩), .int .u64 153]) >>= _).run Tryz.prog W = _
  rw [Sem.run_bind, asPartsS, Result.andThen]
  simp [ReflectliteValue.flagAddr, loadVar, isAgg, underlying, Tryz.underlying116, loadCells, loadCellsFrom, asSize, b0, b1, Result.andThen, asDirect, storeVar, Value.cells, storeCells, Addr.add]
  rw [run_store Tryz.prog W ⟨tb, 0, none⟩ _ _ (by rfl)]
  simp [t0, u0]
  rw [run_store Tryz.prog _ ⟨tb, 1, none⟩ _ _ (by rfl)]
  simp [t1, u1]

end Go.Proofs.YtflekodaiejflaaGreatDoor
