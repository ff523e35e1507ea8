/-
  Processors, in the program (chapter 4): when to wake.
-/
import Derived.Test.YtnmaljieaflnmaaProcImpl
import Derived.Test.YtnmaljieaflnmaaFirstOf
import Derived.Test.YtnmaljieaflnmaaProcExact
namespace Go.Proofs.Ytnmaljieaflnmaa
open Go.RowKit Go.Joins
set_option linter.unusedVariables false

set_option maxRecDepth 100000 in
set_option maxHeartbeats 2000000 in
theorem pxWake_none {v : Value} (l e d : Int) {w : World} (he : e < 0) (hv : ∃ a cap, v = .slice a 0 cap) :
    Calls Try.prog 49 #[pxV v l e d] w fun x w' => x = .returned (.int .i64 (-1)) ∧ Below w.heap.size w w' := by
  obtain ⟨sa, cap, rfl⟩ := hv
  have k0 := (Below.refl w.heap.size w).alloc (Nat.le_refl _) (pxB (.slice sa 0 cap) l e d)
  have hd : decide (0 ≤ e) = false := by simpa using he
  have hn : ¬ 0 ≤ e := by omega
  go_enter Try.func49, Try.ntmps49
  go_wp2_with fail
  go_at_call 89; refine (firstOf_none ⟨_, _, rfl⟩).mono ?_; rintro x w1 ⟨rfl, hb⟩
  have k1 := k0.alloc k0.size (.cells #[] 2)
  have k2 := k1.trans (hb.mono k1.size)
  go_wp2
  go_ret
  exact ⟨rfl, k2⟩

set_option maxRecDepth 100000 in
set_option maxHeartbeats 2000000 in
theorem pxWake_top {v : Value} {n : Nat} {f : Slots} (l e d : Int) {w : World} (he : e < 0) (h0 : 0 < n) (hn : n ≤ 1048576) (h : RowAt w v n f) :
    Calls Try.prog 49 #[pxV v l e d] w fun x w' => x = .returned (.int .i64 (f 0).2) ∧ Below w.heap.size w w' := by
  rcases h with ⟨rfl, _⟩ | ⟨b, off, cap, rfl, hl, hc⟩
  · omega
  have k0 := (Below.refl w.heap.size w).alloc (Nat.le_refl _) (pxB (.slice (some ⟨b, off, none⟩) n cap) l e d)
  have k1 := k0.alloc k0.size (.cells #[] 2)
  have hs0 : (w.alloc (pxB (.slice (some ⟨b, off, none⟩) n cap) l e d)).heap.size = w.heap.size + 1 := by simp
  have hs1 : ((w.alloc (pxB (.slice (some ⟨b, off, none⟩) n cap) l e d)).alloc (.cells #[] 2)).heap.size = w.heap.size + 1 + 1 := by simp
  have ho := Lib.hid ((rowi_new (B := w.heap.size) hs0.symm k0.size).alloc (.cells #[.int .i64 (f 0).2] 2))
  have hS := Lib.hid (int_new (f 0).2 hs1.symm)
  have hB1 : w.heap.size ≤ (((w.alloc (pxB (.slice (some ⟨b, off, none⟩) n cap) l e d)).alloc (.cells #[] 2)).alloc (.cells #[.int .i64 (f 0).2] 2)).heap.size := by simp; omega
  have k2 := k1.alloc k1.size (.cells #[.int .i64 (f 0).2] 2)
  have hX2 := alloc_block (.cells #[.int .i64 (f 0).2] 2) (alloc_block (.cells #[] 2) (heap_alloc_new w (pxB (.slice (some ⟨b, off, none⟩) n cap) l e d)))
  have c1 : ((w.alloc (pxB (.slice (some ⟨b, off, none⟩) n cap) l e d)).alloc (.cells #[] 2)).cell? ⟨b, off + 1, none⟩ = some (.int .i64 (f 0).2) :=
    (k1.cell (p := ⟨b, off + 1, none⟩) hl).trans (by simpa using (hc 0 h0).2)
  have hX := alloc_block (.cells #[] 2) (heap_alloc_new w (pxB (.slice (some ⟨b, off, none⟩) n cap) l e d))
  obtain ⟨x0, x1, x2, x3, _, _, _, _⟩ := four hX
  have hd : decide (0 ≤ e) = false := by simpa using he
  have hne : ¬ 0 ≤ e := by omega
  have hp : (0 : Int) < (n : Int) := by omega
  have hpd : decide (0 < n) = true := by simpa using h0
  go_enter Try.func49, Try.ntmps49
  go_wp2_with (first
    | (at_builtin
       refine wpList_append_int rfl (.tmp 9) (.tmp 15) rfl w.heap.size _ 0 (fun _ => 0) rfl ho.out _ (f 0).2 rfl hS.out (by omega) hB1 ?_
       intro v' w' hown hg hat
       have hX3 : w'.heap[w.heap.size]? = some (pxB (.slice (some ⟨b, off, none⟩) n cap) l e d) := g_block (g := w.heap.size + 1) hg hX2 (by omega)
       have hbw := b_grown (g := w.heap.size + 1) hg (Nat.le_succ _) hB1
       obtain ⟨z0, z1, z2, z3, _, _, _, _⟩ := four hX3
       have hO := (owni_of_row hown).row
       obtain ⟨a2, p2, hv2⟩ := hO.form
       subst hv2
       have k3 := k2.trans hbw
       clear hown hat hg hbw hX3 x0 x1 x2 x3 c1 ho hS hX hX2 hc k0 k1 k2))
  go_at_call 89; refine (firstOf_some (by omega) (by omega) hO).mono ?_; rintro x w3 ⟨rfl, hb⟩
  have k4 := k3.trans (hb.mono k3.size)
  go_wp2
  go_ret
  exact ⟨rfl, k4⟩

set_option maxRecDepth 100000 in
set_option maxHeartbeats 2000000 in
theorem pxWake_early {v : Value} (l e d : Int) {w : World} (he : 0 ≤ e) (hv : ∃ a cap, v = .slice a 0 cap) :
    Calls Try.prog 49 #[pxV v l e d] w fun x w' => x = .returned (.int .i64 e) ∧ Below w.heap.size w w' := by
  obtain ⟨sa, cap, rfl⟩ := hv
  have k0 := (Below.refl w.heap.size w).alloc (Nat.le_refl _) (pxB (.slice sa 0 cap) l e d)
  have k1 := k0.alloc k0.size (.cells #[] 2)
  have hs0 : (w.alloc (pxB (.slice sa 0 cap) l e d)).heap.size = w.heap.size + 1 := by simp
  have hs1 : ((w.alloc (pxB (.slice sa 0 cap) l e d)).alloc (.cells #[] 2)).heap.size = w.heap.size + 1 + 1 := by simp
  have ho := Lib.hid ((rowi_new (B := w.heap.size) hs0.symm k0.size).alloc (.cells #[.int .i64 e] 2))
  have hS := Lib.hid (int_new e hs1.symm)
  have hB1 : w.heap.size ≤ (((w.alloc (pxB (.slice sa 0 cap) l e d)).alloc (.cells #[] 2)).alloc (.cells #[.int .i64 e] 2)).heap.size := by simp; omega
  have k2 := k1.alloc k1.size (.cells #[.int .i64 e] 2)
  have hd : decide (0 ≤ e) = true := by simpa using he
  go_enter Try.func49, Try.ntmps49
  go_wp2_with (first
    | (at_builtin
       refine wpList_append_int rfl (.tmp 20) (.tmp 23) rfl w.heap.size _ 0 (fun _ => 0) rfl ho.out _ e rfl hS.out (by omega) hB1 ?_
       intro v' w' hown hg hat
       have hbw := b_grown (g := w.heap.size + 1) hg (Nat.le_succ _) hB1
       have hO := (owni_of_row hown).row
       obtain ⟨a2, p2, hv2⟩ := hO.form
       subst hv2
       have k3 := k2.trans hbw
       clear hown hat hg hbw ho hS k0 k1 k2))
  go_at_call 89; refine (firstOf_some (by omega) (by omega) hO).mono ?_; rintro x w3 ⟨rfl, hb⟩
  have k4 := k3.trans (hb.mono k3.size)
  go_wp2
  go_ret
  exact ⟨rfl, k4⟩

set_option maxRecDepth 100000 in
set_option maxHeartbeats 4000000 in
theorem pxWake_both {v : Value} {n : Nat} {f : Slots} (l e d : Int) {w : World} (he : 0 ≤ e) (h0 : 0 < n) (hn : n ≤ 1048576) (h : RowAt w v n f) :
    Calls Try.prog 49 #[pxV v l e d] w fun x w' => x = .returned (.int .i64 (minI (f 0).2 e)) ∧ Below w.heap.size w w' := by
  rcases h with ⟨rfl, _⟩ | ⟨b, off, cap, rfl, hl, hc⟩
  · omega
  have k0 := (Below.refl w.heap.size w).alloc (Nat.le_refl _) (pxB (.slice (some ⟨b, off, none⟩) n cap) l e d)
  have k1 := k0.alloc k0.size (.cells #[] 2)
  have hs0 : (w.alloc (pxB (.slice (some ⟨b, off, none⟩) n cap) l e d)).heap.size = w.heap.size + 1 := by simp
  have hs1 : ((w.alloc (pxB (.slice (some ⟨b, off, none⟩) n cap) l e d)).alloc (.cells #[] 2)).heap.size = w.heap.size + 1 + 1 := by simp
  have ho := Lib.hid ((rowi_new (B := w.heap.size + 1) hs0.symm (Nat.le_of_eq hs0.symm)).alloc (.cells #[.int .i64 (f 0).2] 2))
  have hS := Lib.hid (int_new (f 0).2 hs1.symm)
  have hB1 : w.heap.size + 1 ≤ (((w.alloc (pxB (.slice (some ⟨b, off, none⟩) n cap) l e d)).alloc (.cells #[] 2)).alloc (.cells #[.int .i64 (f 0).2] 2)).heap.size := by simp
  have k2 := k1.alloc k1.size (.cells #[.int .i64 (f 0).2] 2)
  have hX2 := alloc_block (.cells #[.int .i64 (f 0).2] 2) (alloc_block (.cells #[] 2) (heap_alloc_new w (pxB (.slice (some ⟨b, off, none⟩) n cap) l e d)))
  have c1 : ((w.alloc (pxB (.slice (some ⟨b, off, none⟩) n cap) l e d)).alloc (.cells #[] 2)).cell? ⟨b, off + 1, none⟩ = some (.int .i64 (f 0).2) :=
    (k1.cell (p := ⟨b, off + 1, none⟩) hl).trans (by simpa using (hc 0 h0).2)
  have hX := alloc_block (.cells #[] 2) (heap_alloc_new w (pxB (.slice (some ⟨b, off, none⟩) n cap) l e d))
  obtain ⟨x0, x1, x2, x3, _, _, _, _⟩ := four hX
  have hd : decide (0 ≤ e) = true := by simpa using he
  have hp : (0 : Int) < (n : Int) := by omega
  have hpd : decide (0 < n) = true := by simpa using h0
  go_enter Try.func49, Try.ntmps49
  go_wp2_with (first
    | (at_builtin
       refine wpList_append_int rfl (.tmp 9) (.tmp 15) rfl (w.heap.size + 1) _ 0 (fun _ => 0) rfl ho.out _ (f 0).2 rfl hS.out (by omega) hB1 ?_
       intro v' w' hown hg hat
       have hX3 : w'.heap[w.heap.size]? = some (pxB (.slice (some ⟨b, off, none⟩) n cap) l e d) := g_block (g := w.heap.size + 1) hg hX2 (by omega)
       have hbw := b_grown (g := w.heap.size + 1) hg (Nat.le_refl _) hB1
       have hbw0 := b_grown (g := w.heap.size + 1) hg (Nat.le_succ _) (Nat.le_of_succ_le hB1)
       obtain ⟨z0, z1, z2, z3, _, _, _, _⟩ := four hX3
       have hOI := owni_of_row hown
       obtain ⟨a2, p2, hv2⟩ := hOI.row.form
       subst hv2
       have k3 := k2.trans hbw0
       have ho2 := Lib.hid (hown.alloc (.cells #[.int .i64 e] 2))
       have hS2 := Lib.hid (int_new (w := w') e rfl)
       have hB2 := Nat.le_trans hB1 (Nat.le_trans hbw.size (Nat.le_of_lt (show w'.heap.size < (w'.alloc (.cells #[.int .i64 e] 2)).heap.size by simp)))
       have k4 := k3.alloc k3.size (.cells #[.int .i64 e] 2)
       clear hown hat hg hbw hbw0 hX3 x0 x1 x2 x3 c1 ho hS hX hX2 hc k0 k1 k2 hB1)
    | (at_builtin
       refine wpList_append_int rfl (.tmp 20) (.tmp 23) rfl (w.heap.size + 1) _ 1 _ rfl ho2.out _ e rfl hS2.out (by omega) hB2 ?_
       intro v4 w4 hown4 hg4 hat4
       have hO4 := (owni_of_row hown4).row
       obtain ⟨a4, p4, hv4⟩ := hO4.form
       subst hv4
       have k5 : Below w.heap.size w w4 := by
         rcases hOI with ⟨hh, _⟩ | ⟨g, cg, eg, hgo⟩
         · omega
         · injection eg with e1 e2 e3
           subst e1
           exact k4.trans (b_grown (g := g) hg4 (Nat.le_of_succ_le hgo.1) (Nat.le_of_succ_le hB2))
       clear hown4 hg4 hat4 ho2 hS2 k4 k3 hOI))
  go_at_call 89; refine (firstOf_some (by omega) (by omega) hO4).mono ?_; rintro x w5 ⟨rfl, hb⟩
  have k6 := k5.trans (hb.mono k5.size)
  go_wp2
  go_ret
  refine ⟨ret_i64 ?_, k6⟩
  show (if e < (f 0).2 then e else (f 0).2) = minI (f 0).2 e
  unfold minI
  split <;> split <;> omega

theorem pxWake_any {v : Value} {n : Nat} {f : Slots} (l e d : Int) {w : World} (hn : n ≤ 1048576) (h : RowAt w v n f) :
    Calls Try.prog 49 #[pxV v l e d] w fun x w' => x = .returned (.int .i64 (wakeI f n e)) ∧ Below w.heap.size w w' := by
  rcases Nat.eq_zero_or_pos n with rfl | h0
  · rw [show wakeI f 0 e = maxI e (-1) from rfl]
    by_cases he : e < 0
    · rw [show maxI e (-1) = -1 by unfold maxI; split <;> omega]
      exact pxWake_none l e d he h.form
    · rw [show maxI e (-1) = e by unfold maxI; rw [if_pos (by omega)]]
      exact pxWake_early l e d (by omega) h.form
  · by_cases he : e < 0
    · rw [show wakeI f n e = (f 0).2 by rw [wakeI, if_neg (by omega), if_pos he]]
      exact pxWake_top l e d he h0 hn h
    · rw [show wakeI f n e = minI (f 0).2 e by rw [wakeI, if_neg (by omega), if_neg he]]
      exact pxWake_both l e d (by omega) h0 hn h

set_option maxRecDepth 100000 in
set_option maxHeartbeats 1000000 in
theorem imWakeOf_any : AsksW 13 := by
  intro v n f l e d w hn h
  have k0 := (Below.refl w.heap.size w).alloc (Nat.le_refl _) (.cells #[v, .int .i64 l, .int .i64 e, .int .i64 d] 28)
  have HR := Lib.hid (h.below k0)
  obtain ⟨va, vc, hv⟩ := h.form
  have hform : ∃ a cap, v = .slice a n cap := h.form
  clear h
  subst hv
  go_enter Try.func13, Try.ntmps13
  go_wp2_with fail
  go_at_call 48; refine (processorOf_any _ _ _ hform).mono ?_; rintro x w2 ⟨rfl, hb⟩
  go_wp2_with fail
  go_at_call 49; refine (pxWake_any _ _ _ hn (HR.out.below hb)).mono ?_; rintro x w3 ⟨rfl, hb2⟩
  have k2 := (k0.trans (hb.mono k0.size))
  have k3 := k2.trans (hb2.mono k2.size)
  go_wp2
  go_ret
  exact ⟨rfl, k3⟩

end Go.Proofs.Ytnmaljieaflnmaa
