/-
  A memory as the program works with it (chapter 5): has it a timer; do the slots of a processor agree with the timers?
-/
import Derived.Test.YtngbcpmhejeheaaGreatDoorL04
import Derived.Test.YtngbcpmhejeheaaGreatDoorL03
import Derived.Test.YtngbcpmhejeheaaGreatDoorL00
import Derived.Laws.EntriesVeiled
import Derived.Test.YtngbcpmhejeheaaGreatDoorL01
namespace Go.Proofs.YtngbcpmhejeheaaGreatDoor
open Go.RowKit Go.Joins
set_option linter.unusedVariables false
set_option linter.unusedSimpArgs false

set_option maxHeartbeats 400000 in
theorem hasTimer_any {mb : Nat} {a b c : Int} {M : Me} {w : World} (hn : M.tn ≤ 1048576) (h : SeenAt w mb a b c M) (t : Int) :
    Calls Tryz.prog 88 #[ptrV mb, .int .i64 t] w fun e w' => e = .returned (.bool (hasT M t)) ∧ Below w.heap.size w w' := by
  obtain ⟨tv, pv, hb, ht, _⟩ := h
  obtain ⟨ta, tc, rfl⟩ := ht.form
  obtain ⟨m0, m1, m2, m3, m4, m5⟩ := six hb
  clear hb ht
  unfold hasT
  go_enter Tryz.func88, Tryz.ntmps88
  go_wp2_with fail
  go_at_call 114; refine (within_any _ _ _ _).mono ?_; rintro x w1 ⟨rfl, rfl⟩
  go_wp2
  go_ret
  exact ⟨rfl, Below.refl _ _⟩

/-- is a timer overlooked? -/
def ovB (e : Int) (t : Tm) : Bool := t.st == 3 && (e == -1 || decide (t.nx < e))
set_option maxRecDepth 100000 in
set_option maxHeartbeats 1000000 in
theorem overlooks_any {v : Value} {n : Nat} (l e d : Int) (t : Tm) {w : World} (hv : ∃ a cap, v = .slice a n cap) :
    Calls Tryz.prog 137 #[pxV v l e d, tmV t] w fun x w' => x = .returned (.bool (ovB e t)) ∧ Below w.heap.size w w' := by
  obtain ⟨sa, cap, rfl⟩ := hv
  obtain ⟨st, wh, nx, pe, pl, ge, ki, ma⟩ := t
  have k0 := (Below.refl w.heap.size w).alloc (Nat.le_refl _) (pxB (.slice sa n cap) l e d)
  have k1 := k0.alloc k0.size (.cells (tmCells ⟨st, wh, nx, pe, pl, ge, ki, ma⟩) 80)
  cases h3 : st == 3
  · rw [show ovB e ⟨st, wh, nx, pe, pl, ge, ki, ma⟩ = false by simp only [ovB, h3]; rfl]
    go_enter Tryz.func137, Tryz.ntmps137
    go_wp2
    go_ret
    exact ⟨rfl, k1⟩
  cases he : e == -1
  · rw [show ovB e ⟨st, wh, nx, pe, pl, ge, ki, ma⟩ = decide (nx < e) by simp only [ovB, h3, he]; rfl]
    go_enter Tryz.func137, Tryz.ntmps137
    go_wp2
    go_ret
    exact ⟨rfl, k1⟩
  · rw [show ovB e ⟨st, wh, nx, pe, pl, ge, ki, ma⟩ = true by simp only [ovB, h3, he]; rfl]
    go_enter Tryz.func137, Tryz.ntmps137
    go_wp2
    go_ret
    exact ⟨rfl, k1⟩

set_option maxRecDepth 100000 in
set_option maxHeartbeats 8000000 in
theorem slotsAgree_any {mb : Nat} {a b c : Int} {M : Me} {w : World} (htn : M.tn ≤ 1048576) (h : SeenAt w mb a b c M) (k : Int) {v : Value} {n : Nat} {f : Slots} (hn : n ≤ 1048576) (hr : RowAt w v n f) :
    Calls Tryz.prog 121 #[ptrV mb, .int .i64 k, v] w fun e w' => e = .returned (.bool (allB (fun i => slotOkB M k (f i)) n)) ∧ Below w.heap.size w w' := by
  obtain ⟨a1, c1, rfl⟩ := hr.form
  have HR := Lib.hid hr
  have HS := Lib.hid h
  clear h hr
  go_enter Tryz.func121, Tryz.ntmps121
  go_wp2_with fail
  go_loopw [11] (fun i wr => ∃ q : Nat, q ≤ n ∧ i = .int .i64 q ∧ Hid (allB (fun i => slotOkB M k (f i)) q = true) ∧ Below w.heap.size w wr) (fun i _ => n - (intOf i).toNat)
  case atStart => exact ⟨0, Nat.zero_le _, rfl, Lib.hid rfl, Below.refl _ _⟩
  case round =>
    obtain ⟨i, hi, rfl, hok, kw⟩ := hrel
    by_cases hlt : i < n
    · rcases HR.out with ⟨h0, _⟩ | ⟨sb, so, scap, ev, hsb, hsc⟩
      · omega
      injection ev with ev1 ev2 ev3
      subst ev1 ev3
      obtain ⟨s0, s1⟩ := hsc i hlt
      replace s0 := (kw.cell (p := ⟨sb, so + i * 2, none⟩) hsb).trans s0
      replace s1 := (kw.cell (p := ⟨sb, so + i * 2 + 1, none⟩) hsb).trans s1
      have i1 : (i : Int) < (n : Int) := by omega
      have i0 : (0 : Int) ≤ (i : Int) := by omega
      obtain ⟨id, hid⟩ : ∃ id : Int, id = (f i).1 := ⟨_, rfl⟩
      obtain ⟨ky, hky⟩ : ∃ ky : Int, ky = (f i).2 := ⟨_, rfl⟩
      rw [← hid] at s0
      rw [← hky] at s1
      have ks := kw.alloc kw.size (.cells #[.int .i64 id, .int .i64 ky] 131)
      have hSv := heap_alloc_new wr (.cells #[.int .i64 id, .int .i64 ky] 131)
      have lS := lt_of_block hSv
      obtain ⟨tv, pv, hM, hT, _⟩ := HS.out.below ks
      obtain ⟨ta, tc, htv⟩ := hT.form
      subst htv
      have lM := lt_of_block hM
      obtain ⟨m0, m1, m2, m3, m4, m5⟩ := six hM
      have z0 := cell_of_block hSv 0
      have z1 := cell_of_block hSv 1
      have HOK := Lib.hid hok.out
      have HID := Lib.hid hid
      have HKY := Lib.hid hky
      clear hok hid hky hsc hM hSv
      cases hh : hasT M id
      · have HBAD := Lib.hid (show allB (fun i => slotOkB M k (f i)) n = false from allB_bad (i := i) (by show slotOkB M k (f i) = false; unfold slotOkB; rw [← HID.out, hh]; rfl) _ hlt)
        have HH := Lib.hid hh
        clear hh
        obtain ⟨C, hC⟩ : ∃ C : World → Prop, ∀ w', C w' ↔ (w'.cell? ⟨mb, 4, none⟩ = some (.slice ta M.tn tc) ∧ w'.cell? ⟨wr.heap.size, 0, none⟩ = some (.int .i64 id) ∧ w'.cell? ⟨wr.heap.size, 1, none⟩ = some (.int .i64 ky) ∧ Below ((wr.alloc (.cells #[.int .i64 id, .int .i64 ky] 131))).heap.size ((wr.alloc (.cells #[.int .i64 id, .int .i64 ky] 131))) w') := ⟨_, fun _ => Iff.rfl⟩
        have HCin := Lib.hid (show ∀ w', Below ((wr.alloc (.cells #[.int .i64 id, .int .i64 ky] 131))).heap.size ((wr.alloc (.cells #[.int .i64 id, .int .i64 ky] 131))) w' → C w' from fun w' kd => (hC w').2 ⟨(kd.cell (p := ⟨mb, 4, none⟩) lM).trans m4, (kd.cell (p := ⟨wr.heap.size, 0, none⟩) lS).trans z0, (kd.cell (p := ⟨wr.heap.size, 1, none⟩) lS).trans z1, kd⟩)
        have HC := Lib.hid hC
        have HFn0 : ∀ W : World, Below ((wr.alloc (.cells #[.int .i64 id, .int .i64 ky] 131))).heap.size ((wr.alloc (.cells #[.int .i64 id, .int .i64 ky] 131))) W → Calls Tryz.prog 88 #[ptrV mb, .int .i64 id] W (fun e w'' => e = .returned (.bool false) ∧ Below W.heap.size W w'') := fun W hW => by have := hasTimer_any htn (HS.out.below (ks.trans (hW.mono ks.size))) (id); rw [HH.out] at this; exact this
        have HCall0 := Lib.hid (show ∀ w', C w' → Calls Tryz.prog 88 #[ptrV mb, .int .i64 id] w' (fun e w'' => e = .returned (.bool false) ∧ C w'') from fun w' hw' => (HFn0 w' ((HC.out w').1 hw').2.2.2).mono (fun e w'' hx => ⟨hx.1, HCin.out _ ((((HC.out w').1 hw').2.2.2).trans (hx.2.mono (((HC.out w').1 hw').2.2.2).size))⟩))
        clear hC HFn0
        go_wp2_with fail
        refine region_quietC (C := C) (by kernel_rfl) (by kernel_rfl) (HCin.out _ (Below.refl _ _).drew) ?_
        repeat (first
          | go_big_quiet_skip
          | (go_big_quiet_want; go_big_quiet_op; go_big_quiet_on)
          | (refine quiet_take (v := ?_) (by rfl) ?_ ?_
             rotate_left
             · intro w' hw'
               obtain ⟨q0, q1, q2, hbel⟩ := (HC.out w').1 hw'
               go_simp
               first
                 | done
                 | exact rfl
                 | exact HCall0.out w' hw'
             simp only [Act.put, List.setIfInBounds_toArray, List.set_cons_zero, List.set_cons_succ]))
        refine wpQuiet_nil ?_
        intro wq hwq
        obtain ⟨q0, q1, q2, kd⟩ := (HC.out wq).1 hwq
        clear hwq HCall0 HC HCin
        go_wp2
        go_ret
        exact ⟨ret_bool' HBAD.out.symm, ks.trans (kd.mono ks.size)⟩
      obtain ⟨g0, g1⟩ := hasT_iff.1 hh
      rcases hT with ⟨h0, _⟩ | ⟨tb, tof, tcap, ev, htb, htc⟩
      · omega
      injection ev with ev1 ev2 ev3
      subst ev1 ev3
      obtain ⟨j, rfl⟩ : ∃ j : Nat, id = (j : Int) := ⟨id.toNat, by omega⟩
      have hj : j < M.tn := by omega
      have ht := htc j hj
      have t4 : (wr.alloc (.cells #[.int .i64 (j : Int), .int .i64 ky] 131)).cell? ⟨tb, tof + j * 8 + 4, none⟩ = some (.int .i64 (M.t j).pl) := ht 4 (by decide)
      have t1 : (wr.alloc (.cells #[.int .i64 (j : Int), .int .i64 ky] 131)).cell? ⟨tb, tof + j * 8 + 1, none⟩ = some (.int .i64 (M.t j).wh) := ht 1 (by decide)
      have HH := Lib.hid hh
      have hjn : ((f i).1).toNat = j := by rw [← HID.out]; simp
      have HS1 := Lib.hid (show slotOkB M k (f i) = ((M.t j).pl == k && (M.t j).wh == ky) by unfold slotOkB; rw [← HID.out, HH.out, ← HKY.out, Int.toNat_natCast]; rfl)
      obtain ⟨pl, hpl⟩ : ∃ pl : Int, pl = (M.t j).pl := ⟨_, rfl⟩
      obtain ⟨wh, hwh⟩ : ∃ wh : Int, wh = (M.t j).wh := ⟨_, rfl⟩
      rw [← hpl] at t4 HS1
      rw [← hwh] at t1 HS1
      clear ht htc hh hjn hpl hwh
      have ij0 : (0 : Int) ≤ (j : Int) := by omega
      have ij1 : (j : Int) < (M.tn : Int) := by omega
      cases e1 : pl == k
      · have n1 : (pl != k) = true := by rw [bne, e1]; rfl
        have HBAD := Lib.hid (show allB (fun i => slotOkB M k (f i)) n = false from allB_bad (i := i) (by show slotOkB M k (f i) = false; rw [HS1.out, e1]; rfl) _ hlt)
        obtain ⟨C, hC⟩ : ∃ C : World → Prop, ∀ w', C w' ↔ (w'.cell? ⟨mb, 4, none⟩ = some (.slice (some ⟨tb, tof, none⟩) M.tn tc) ∧ w'.cell? ⟨wr.heap.size, 0, none⟩ = some (.int .i64 (j : Int)) ∧ w'.cell? ⟨wr.heap.size, 1, none⟩ = some (.int .i64 ky) ∧ w'.cell? ⟨tb, tof + j * 8 + 4, none⟩ = some (.int .i64 pl) ∧ w'.cell? ⟨tb, tof + j * 8 + 1, none⟩ = some (.int .i64 wh) ∧ Below ((wr.alloc (.cells #[.int .i64 (j : Int), .int .i64 ky] 131))).heap.size ((wr.alloc (.cells #[.int .i64 (j : Int), .int .i64 ky] 131))) w') := ⟨_, fun _ => Iff.rfl⟩
        have HCin := Lib.hid (show ∀ w', Below ((wr.alloc (.cells #[.int .i64 (j : Int), .int .i64 ky] 131))).heap.size ((wr.alloc (.cells #[.int .i64 (j : Int), .int .i64 ky] 131))) w' → C w' from fun w' kd => (hC w').2 ⟨(kd.cell (p := ⟨mb, 4, none⟩) lM).trans m4, (kd.cell (p := ⟨wr.heap.size, 0, none⟩) lS).trans z0, (kd.cell (p := ⟨wr.heap.size, 1, none⟩) lS).trans z1, (kd.cell (p := ⟨tb, tof + j * 8 + 4, none⟩) htb).trans t4, (kd.cell (p := ⟨tb, tof + j * 8 + 1, none⟩) htb).trans t1, kd⟩)
        have HC := Lib.hid hC
        have HFn0 : ∀ W : World, Below ((wr.alloc (.cells #[.int .i64 (j : Int), .int .i64 ky] 131))).heap.size ((wr.alloc (.cells #[.int .i64 (j : Int), .int .i64 ky] 131))) W → Calls Tryz.prog 88 #[ptrV mb, .int .i64 (j : Int)] W (fun e w'' => e = .returned (.bool true) ∧ Below W.heap.size W w'') := fun W hW => by have := hasTimer_any htn (HS.out.below (ks.trans (hW.mono ks.size))) ((j : Int)); rw [HH.out] at this; exact this
        have HCall0 := Lib.hid (show ∀ w', C w' → Calls Tryz.prog 88 #[ptrV mb, .int .i64 (j : Int)] w' (fun e w'' => e = .returned (.bool true) ∧ C w'') from fun w' hw' => (HFn0 w' ((HC.out w').1 hw').2.2.2.2.2).mono (fun e w'' hx => ⟨hx.1, HCin.out _ ((((HC.out w').1 hw').2.2.2.2.2).trans (hx.2.mono (((HC.out w').1 hw').2.2.2.2.2).size))⟩))
        clear hC HFn0
        go_wp2_with fail
        refine region_quietC (C := C) (by kernel_rfl) (by kernel_rfl) (HCin.out _ (Below.refl _ _).drew) ?_
        repeat (first
          | go_big_quiet_skip
          | (go_big_quiet_want; go_big_quiet_op; go_big_quiet_on)
          | (refine quiet_take (v := ?_) (by rfl) ?_ ?_
             rotate_left
             · intro w' hw'
               obtain ⟨q0, q1, q2, q3, q4, hbel⟩ := (HC.out w').1 hw'
               go_simp
               first
                 | done
                 | exact rfl
                 | exact HCall0.out w' hw'
             simp only [Act.put, List.setIfInBounds_toArray, List.set_cons_zero, List.set_cons_succ]))
        refine wpQuiet_nil ?_
        intro wq hwq
        obtain ⟨q0, q1, q2, q3, q4, kd⟩ := (HC.out wq).1 hwq
        clear hwq HCall0 HC HCin
        go_wp2
        go_ret
        exact ⟨ret_bool' HBAD.out.symm, ks.trans (kd.mono ks.size)⟩
      have n1 : (pl != k) = false := by rw [bne, e1]; rfl
      cases e2 : wh == ky
      · have n2 : (wh != ky) = true := by rw [bne, e2]; rfl
        have HBAD := Lib.hid (show allB (fun i => slotOkB M k (f i)) n = false from allB_bad (i := i) (by show slotOkB M k (f i) = false; rw [HS1.out, e1, e2]; rfl) _ hlt)
        obtain ⟨C, hC⟩ : ∃ C : World → Prop, ∀ w', C w' ↔ (w'.cell? ⟨mb, 4, none⟩ = some (.slice (some ⟨tb, tof, none⟩) M.tn tc) ∧ w'.cell? ⟨wr.heap.size, 0, none⟩ = some (.int .i64 (j : Int)) ∧ w'.cell? ⟨wr.heap.size, 1, none⟩ = some (.int .i64 ky) ∧ w'.cell? ⟨tb, tof + j * 8 + 4, none⟩ = some (.int .i64 pl) ∧ w'.cell? ⟨tb, tof + j * 8 + 1, none⟩ = some (.int .i64 wh) ∧ Below ((wr.alloc (.cells #[.int .i64 (j : Int), .int .i64 ky] 131))).heap.size ((wr.alloc (.cells #[.int .i64 (j : Int), .int .i64 ky] 131))) w') := ⟨_, fun _ => Iff.rfl⟩
        have HCin := Lib.hid (show ∀ w', Below ((wr.alloc (.cells #[.int .i64 (j : Int), .int .i64 ky] 131))).heap.size ((wr.alloc (.cells #[.int .i64 (j : Int), .int .i64 ky] 131))) w' → C w' from fun w' kd => (hC w').2 ⟨(kd.cell (p := ⟨mb, 4, none⟩) lM).trans m4, (kd.cell (p := ⟨wr.heap.size, 0, none⟩) lS).trans z0, (kd.cell (p := ⟨wr.heap.size, 1, none⟩) lS).trans z1, (kd.cell (p := ⟨tb, tof + j * 8 + 4, none⟩) htb).trans t4, (kd.cell (p := ⟨tb, tof + j * 8 + 1, none⟩) htb).trans t1, kd⟩)
        have HC := Lib.hid hC
        have HFn0 : ∀ W : World, Below ((wr.alloc (.cells #[.int .i64 (j : Int), .int .i64 ky] 131))).heap.size ((wr.alloc (.cells #[.int .i64 (j : Int), .int .i64 ky] 131))) W → Calls Tryz.prog 88 #[ptrV mb, .int .i64 (j : Int)] W (fun e w'' => e = .returned (.bool true) ∧ Below W.heap.size W w'') := fun W hW => by have := hasTimer_any htn (HS.out.below (ks.trans (hW.mono ks.size))) ((j : Int)); rw [HH.out] at this; exact this
        have HCall0 := Lib.hid (show ∀ w', C w' → Calls Tryz.prog 88 #[ptrV mb, .int .i64 (j : Int)] w' (fun e w'' => e = .returned (.bool true) ∧ C w'') from fun w' hw' => (HFn0 w' ((HC.out w').1 hw').2.2.2.2.2).mono (fun e w'' hx => ⟨hx.1, HCin.out _ ((((HC.out w').1 hw').2.2.2.2.2).trans (hx.2.mono (((HC.out w').1 hw').2.2.2.2.2).size))⟩))
        clear hC HFn0
        go_wp2_with fail
        refine region_quietC (C := C) (by kernel_rfl) (by kernel_rfl) (HCin.out _ (Below.refl _ _).drew) ?_
        repeat (first
          | go_big_quiet_skip
          | (go_big_quiet_want; go_big_quiet_op; go_big_quiet_on)
          | (refine quiet_take (v := ?_) (by rfl) ?_ ?_
             rotate_left
             · intro w' hw'
               obtain ⟨q0, q1, q2, q3, q4, hbel⟩ := (HC.out w').1 hw'
               go_simp
               first
                 | done
                 | exact rfl
                 | exact HCall0.out w' hw'
             simp only [Act.put, List.setIfInBounds_toArray, List.set_cons_zero, List.set_cons_succ]))
        refine wpQuiet_nil ?_
        intro wq hwq
        obtain ⟨q0, q1, q2, q3, q4, kd⟩ := (HC.out wq).1 hwq
        clear hwq HCall0 HC HCin
        go_wp2
        go_ret
        exact ⟨ret_bool' HBAD.out.symm, ks.trans (kd.mono ks.size)⟩
      · have n2 : (wh != ky) = false := by rw [bne, e2]; rfl
        have HOKN := Lib.hid (show allB (fun i => slotOkB M k (f i)) (i + 1) = true by rw [allB, HOK.out, Bool.true_and]; show slotOkB M k (f i) = true; rw [HS1.out, e1, e2]; rfl)
        obtain ⟨C, hC⟩ : ∃ C : World → Prop, ∀ w', C w' ↔ (w'.cell? ⟨mb, 4, none⟩ = some (.slice (some ⟨tb, tof, none⟩) M.tn tc) ∧ w'.cell? ⟨wr.heap.size, 0, none⟩ = some (.int .i64 (j : Int)) ∧ w'.cell? ⟨wr.heap.size, 1, none⟩ = some (.int .i64 ky) ∧ w'.cell? ⟨tb, tof + j * 8 + 4, none⟩ = some (.int .i64 pl) ∧ w'.cell? ⟨tb, tof + j * 8 + 1, none⟩ = some (.int .i64 wh) ∧ Below ((wr.alloc (.cells #[.int .i64 (j : Int), .int .i64 ky] 131))).heap.size ((wr.alloc (.cells #[.int .i64 (j : Int), .int .i64 ky] 131))) w') := ⟨_, fun _ => Iff.rfl⟩
        have HCin := Lib.hid (show ∀ w', Below ((wr.alloc (.cells #[.int .i64 (j : Int), .int .i64 ky] 131))).heap.size ((wr.alloc (.cells #[.int .i64 (j : Int), .int .i64 ky] 131))) w' → C w' from fun w' kd => (hC w').2 ⟨(kd.cell (p := ⟨mb, 4, none⟩) lM).trans m4, (kd.cell (p := ⟨wr.heap.size, 0, none⟩) lS).trans z0, (kd.cell (p := ⟨wr.heap.size, 1, none⟩) lS).trans z1, (kd.cell (p := ⟨tb, tof + j * 8 + 4, none⟩) htb).trans t4, (kd.cell (p := ⟨tb, tof + j * 8 + 1, none⟩) htb).trans t1, kd⟩)
        have HC := Lib.hid hC
        have HFn0 : ∀ W : World, Below ((wr.alloc (.cells #[.int .i64 (j : Int), .int .i64 ky] 131))).heap.size ((wr.alloc (.cells #[.int .i64 (j : Int), .int .i64 ky] 131))) W → Calls Tryz.prog 88 #[ptrV mb, .int .i64 (j : Int)] W (fun e w'' => e = .returned (.bool true) ∧ Below W.heap.size W w'') := fun W hW => by have := hasTimer_any htn (HS.out.below (ks.trans (hW.mono ks.size))) ((j : Int)); rw [HH.out] at this; exact this
        have HCall0 := Lib.hid (show ∀ w', C w' → Calls Tryz.prog 88 #[ptrV mb, .int .i64 (j : Int)] w' (fun e w'' => e = .returned (.bool true) ∧ C w'') from fun w' hw' => (HFn0 w' ((HC.out w').1 hw').2.2.2.2.2).mono (fun e w'' hx => ⟨hx.1, HCin.out _ ((((HC.out w').1 hw').2.2.2.2.2).trans (hx.2.mono (((HC.out w').1 hw').2.2.2.2.2).size))⟩))
        clear hC HFn0
        go_wp2_with fail
        refine region_quietC (C := C) (by kernel_rfl) (by kernel_rfl) (HCin.out _ (Below.refl _ _).drew) ?_
        repeat (first
          | go_big_quiet_skip
          | (go_big_quiet_want; go_big_quiet_op; go_big_quiet_on)
          | (refine quiet_take (v := ?_) (by rfl) ?_ ?_
             rotate_left
             · intro w' hw'
               obtain ⟨q0, q1, q2, q3, q4, hbel⟩ := (HC.out w').1 hw'
               go_simp
               first
                 | done
                 | exact rfl
                 | exact HCall0.out w' hw'
             simp only [Act.put, List.setIfInBounds_toArray, List.set_cons_zero, List.set_cons_succ]))
        refine wpQuiet_nil ?_
        intro wq hwq
        obtain ⟨q0, q1, q2, q3, q4, kd⟩ := (HC.out wq).1 hwq
        clear hwq HCall0 HC HCin
        have kn := ks.trans (kd.mono ks.size)
        go_wp2
        exact ⟨⟨i + 1, by omega, by go_num, HOKN, kn⟩, by simp only [intOf]; omega⟩
    · have hin : i = n := by omega
      have HIN := Lib.hid hin
      have hlt2 : ¬ (i : Int) < (n : Int) := by omega
      clear hin
      go_wp2
      go_ret
      exact ⟨ret_bool' (by rw [← HIN.out, hok.out]), kw⟩

end Go.Proofs.YtngbcpmhejeheaaGreatDoor

/-
  The program's generic list that is told what is less (chapter 2), at slots: its small methods.
-/
namespace Go.Proofs.YtngbcpmhejeheaaGreatDoor
open Go.RowKit Go.Joins
set_option linter.unusedVariables false
set_option linter.unusedSimpArgs false

/-- what is less, as a value -/
abbrev dueV : Value := .func (.func 145) #[] #[]
/-- a heap of the program's, as a value -/
abbrev heapV (v : Value) : Value := .agg #[v, dueV]

set_option maxHeartbeats 400000 in
theorem hSize_any {v : Value} {n : Nat} {w : World} (hn : n ≤ 1048577) (hv : ∃ a cap, v = .slice a n cap) :
    Calls Tryz.prog 151 #[heapV v] w fun e w' => e = .returned (.int .i64 n) ∧ Below w.heap.size w w' := by
  obtain ⟨a, cap, rfl⟩ := hv
  go_enter Tryz.func151, Tryz.ntmps151
  go_wp2
  go_ret
  exact ⟨rfl, (Below.refl _ _).alloc (Nat.le_refl _) _⟩

set_option maxHeartbeats 400000 in
theorem dueBefore_any (a b c d : Int) (w : World) :
    Calls Tryz.prog 145 #[.agg #[.int .i64 a, .int .i64 b], .agg #[.int .i64 c, .int .i64 d]] w fun e w' => e = .returned (.bool (decide (b < d))) ∧ Below w.heap.size w w' := by
  go_enter Tryz.func145, Tryz.ntmps145
  go_wp2
  go_ret
  exact ⟨rfl, ((Below.refl _ _).alloc (Nat.le_refl _) _).alloc (by simp) _⟩

set_option maxHeartbeats 400000 in
theorem parentOf_any (i : Int) (w : World) (h0 : -9223372036854775808 < i) (h1 : i < 9223372036854775808) :
    Calls Tryz.prog 153 #[.int .i64 i] w fun e w' => e = .returned (.int .i64 ((i - 1).tdiv 4)) ∧ w = w' := by
  go_enter Tryz.func153, Tryz.ntmps153
  go_wp2
  go_ret
  exact ⟨rfl, rfl⟩

set_option maxRecDepth 100000 in
set_option maxHeartbeats 1000000 in
theorem hLess_is {v : Value} {n : Nat} {f : Slots} {i j : Nat} (x : Bool) (hx : decide ((f i).2 < (f j).2) = x) {w : World} (hn : n ≤ 1048577) (hi : i < n) (hj : j < n) (h : RowAt w v n f) :
    Calls Tryz.prog 152 #[heapV v, .int .i64 i, .int .i64 j] w fun e w' => e = .returned (.bool x) ∧ Below w.heap.size w w' := by
  rcases h with ⟨rfl, _⟩ | ⟨b, off, cap, rfl, hl, hc⟩
  · omega
  have hb0 := (Below.refl w.heap.size w).alloc (Nat.le_refl _) (.cells #[.slice (some ⟨b, off, none⟩) n cap, dueV] 188)
  have HB := heap_alloc_new w (.cells #[.slice (some ⟨b, off, none⟩) n cap, dueV] 188)
  have x0 := cell_of_block HB 0
  have x1 := cell_of_block HB 1
  have i0 := (hb0.cell (p := ⟨b, off + i * 2, none⟩) hl).trans (hc i hi).1
  have i1 := (hb0.cell (p := ⟨b, off + i * 2 + 1, none⟩) hl).trans (hc i hi).2
  have j0 := (hb0.cell (p := ⟨b, off + j * 2, none⟩) hl).trans (hc j hj).1
  have j1 := (hb0.cell (p := ⟨b, off + j * 2 + 1, none⟩) hl).trans (hc j hj).2
  have hs0 : w.heap.size < (w.alloc (.cells #[.slice (some ⟨b, off, none⟩) n cap, dueV] 188)).heap.size := by simp
  have hs1 : b < (w.alloc (.cells #[.slice (some ⟨b, off, none⟩) n cap, dueV] 188)).heap.size := Nat.lt_trans hl hs0
  have hii : (i : Int) < (n : Int) := by omega
  have hjj : (j : Int) < (n : Int) := by omega
  clear HB hc
  go_enter Tryz.func152, Tryz.ntmps152
  go_wp2_with fail
  go_region_held3 (fun w' => w'.cell? ⟨w.heap.size, 0, none⟩ = some (.slice (some ⟨b, off, none⟩) n cap) ∧ w'.cell? ⟨w.heap.size, 1, none⟩ = some dueV
      ∧ w'.cell? ⟨b, off + i * 2, none⟩ = some (.int .i64 (f i).1) ∧ w'.cell? ⟨b, off + i * 2 + 1, none⟩ = some (.int .i64 (f i).2)
      ∧ w'.cell? ⟨b, off + j * 2, none⟩ = some (.int .i64 (f j).1) ∧ w'.cell? ⟨b, off + j * 2 + 1, none⟩ = some (.int .i64 (f j).2))
    (first | exact ⟨x0, x1, i0, i1, j0, j1⟩ | exact ⟨y0, y1, y2, y3, y4, y5⟩ | go_keep)
    (first
      | (go_at_call 145; refine (dueBefore_any _ _ _ _ _).mono ?_; rintro e w1 ⟨rfl, hb⟩
         have y0 := (hb.cell (p := ⟨w.heap.size, 0, none⟩) hs0).trans x0; have y1 := (hb.cell (p := ⟨w.heap.size, 1, none⟩) hs0).trans x1
         have y2 := (hb.cell (p := ⟨b, off + i * 2, none⟩) hs1).trans i0; have y3 := (hb.cell (p := ⟨b, off + i * 2 + 1, none⟩) hs1).trans i1
         have y4 := (hb.cell (p := ⟨b, off + j * 2, none⟩) hs1).trans j0; have y5 := (hb.cell (p := ⟨b, off + j * 2 + 1, none⟩) hs1).trans j1))
  all_goals
    go_wp2
    go_ret
    exact ⟨rfl, hb0.drew.trans (hb.mono hb0.drew.size)⟩

end Go.Proofs.YtngbcpmhejeheaaGreatDoor

/-
  The model's two sifts (spec, chapter 2): what each makes of a list.
-/
namespace Go.Proofs.YtngbcpmhejeheaaGreatDoor
open Go.RowKit Go.Joins
set_option linter.unusedVariables false
set_option linter.unusedSimpArgs false

theorem raisedF_has {f : Slots} {n : Nat} {i : Int} (h : hasB n i = true) : raisedF f n i = raiseF f i.toNat := by simp [raisedF, h]
theorem raisedF_no {f : Slots} {n : Nat} {i : Int} (h : hasB n i = false) : raisedF f n i = f := by simp [raisedF, h]
theorem sunkF_has {f : Slots} {n : Nat} {i : Int} (h : hasB n i = true) : sunkF f n i = sinkF f n i.toNat := by simp [sunkF, h]
theorem sunkF_no {f : Slots} {n : Nat} {i : Int} (h : hasB n i = false) : sunkF f n i = f := by simp [sunkF, h]

end Go.Proofs.YtngbcpmhejeheaaGreatDoor

/-
  The model's PushedOn and PulledOff (spec, chapter 2).
-/
namespace Go.Proofs.YtngbcpmhejeheaaGreatDoor
open Go.RowKit Go.Joins
set_option linter.unusedVariables false
set_option linter.unusedSimpArgs false

def pushedF (f : Slots) (n : Nat) (s : Int × Int) : Slots := if n < 30 then raiseF (putF f n s) n else f
def pushedN (n : Nat) : Nat := if n < 30 then n + 1 else n

/-- a call that makes a new list and says yes or no -/
def NewRowB (n : Nat) (f : Slots) (b : Bool) (w : World) (e : Ending) (w' : World) : Prop := ∃ v, e = .returned (.tuple #[v, .bool b]) ∧ OwnRow w' w.heap.size v n f ∧ Below w.heap.size w w'

/-! ### PulledOff -/
def pulledF (f : Slots) (n : Nat) (i : Int) : Slots :=
  if hasB n i then (if i < (n : Int) - 1 then sunkF (raisedF (putF f i.toNat (f (n - 1))) (n - 1) i) (n - 1) i else f) else f
def pulledN (n : Nat) (i : Int) : Nat := if hasB n i then n - 1 else n
def pulledS (f : Slots) (n : Nat) (i : Int) : Int × Int := if hasB n i then f i.toNat else (0, 0)

theorem pulledF_mid {f : Slots} {n k : Nat} (h : k < n - 1) : pulledF f n (k : Int) = sunkF (raisedF (putF f k (f (n - 1))) (n - 1) k) (n - 1) k := by
  rw [pulledF, if_pos (hasB_iff.2 ⟨by omega, by omega⟩), if_pos (by omega), Int.toNat_natCast]
theorem pulledF_last {f : Slots} {n k : Nat} (hk : k < n) (h : ¬ k < n - 1) : pulledF f n (k : Int) = f := by
  rw [pulledF, if_pos (hasB_iff.2 ⟨by omega, by omega⟩), if_neg (by omega)]
/-- a call that makes a new list, hands a slot back and says yes or no -/
def NewRowS (n : Nat) (f : Slots) (s : Int × Int) (b : Bool) (w : World) (e : Ending) (w' : World) : Prop := ∃ v, e = .returned (.tuple #[v, .agg #[.int .i64 s.1, .int .i64 s.2], .bool b]) ∧ OwnRow w' w.heap.size v n f ∧ Below w.heap.size w w'

end Go.Proofs.YtngbcpmhejeheaaGreatDoor

/-
  The exact laws on heaps, told what the program's own functions answer.
-/
namespace Go.Proofs.YtngbcpmhejeheaaGreatDoor
open Go.RowKit Go.Joins
set_option linter.unusedVariables false
set_option linter.unusedSimpArgs false

/-- what a sift of the program's is to answer -/
def Sifts (fn : FuncId) (M : Slots → Nat → Int → Slots) : Prop := ∀ (v : Value) (n : Nat) (f : Slots) (i : Int) (w : World), n ≤ 1048576 → RowAt w v n f → Calls Tryz.prog fn #[v, .int .i64 i] w (NewRow n (M f n i) w)
/-- the law's size test: too long -/
theorem big_n {n : Nat} (h : ¬ n ≤ 1048576) : (if (1048576 : Int) < (n : Int) then (-1 : Int) else 1048576 - (n : Int)) = -1 := if_pos (by omega)
theorem small_n {n : Nat} (h : n ≤ 1048576) : (if (1048576 : Int) < (n : Int) then (-1 : Int) else 1048576 - (n : Int)) = 1048576 - (n : Int) := if_neg (by omega)

/-! ### exRaised -/
/-! ### exSunk -/
/-- what a question of the program's is to answer -/
def AsksB (fn : FuncId) (M : Slots → Nat → Bool) : Prop := ∀ (v : Value) (n : Nat) (f : Slots) (w : World), n ≤ 1048576 → RowAt w v n f → Calls Tryz.prog fn #[v] w fun e w' => e = .returned (.bool (M f n)) ∧ Below w.heap.size w w'
def AsksI (fn : FuncId) (M : Slots → Nat → Int → Int) : Prop := ∀ (v : Value) (n : Nat) (f : Slots) (i : Int) (w : World), n ≤ 1048576 → RowAt w v n f → Calls Tryz.prog fn #[v, .int .i64 i] w fun e w' => e = .returned (.int .i64 (M f n i)) ∧ Below w.heap.size w w'
theorem spHeapOk_low {v : Value} {n : Nat} (f : Slots) {w : World} (hn : n ≤ 1048576) (h : RowAt w v n f) :
    Calls Tryz.prog 118 #[v] w fun e w' => e = .returned (.bool (heapB f n)) ∧ Below w.heap.size w w' :=
  (spHeapOk_any f hn h).mono fun e w' ⟨m, he, hw⟩ => ⟨he, by rw [hw]; exact b_drewN (Below.refl _ _) m⟩
def findM (f : Slots) (n : Nat) (i : Int) : Int := findFrom f n i 0
theorem spFindSlot_low {v : Value} {n : Nat} (f : Slots) (i : Int) {w : World} (hn : n ≤ 1048576) (h : RowAt w v n f) :
    Calls Tryz.prog 76 #[v, .int .i64 i] w fun e w' => e = .returned (.int .i64 (findM f n i)) ∧ Below w.heap.size w w' :=
  (spFindSlot_any f i hn h).mono fun e w' ⟨he, hw⟩ => ⟨he, by rw [← hw]; exact Below.refl _ _⟩

/-! ### exHeapOk -/
/-! ### exFindSlot -/
/-! ### exPulled: a list and a slot and a word, asked of one list and one number -/
theorem blk_step {w w' : World} {b : Nat} {o : Obj} (h : w.heap[b]? = some o) (hb : Below w.heap.size w w') : w'.heap[b]? = some o := b_block hb h (lt_of_block h)
theorem blk_kept {w w' : World} {b : Nat} {o : Obj} {ob : Option Nat} (h : w.heap[b]? = some o) (hg : w.grownBy w' ob) (hne : ∀ g, ob = some g → g ≠ b) : w'.heap[b]? = some o :=
  (hg.block b (lt_of_block h) (by intro e; exact hne b e.symm rfl)).trans h

theorem pulledN_le {n : Nat} (i : Int) (hn : n ≤ 1048576) : pulledN n i ≤ 1048576 := by unfold pulledN; split <;> omega
/-- what the program's PulledOff is to answer -/
def Pulls (fn : FuncId) : Prop := ∀ (v : Value) (n : Nat) (f : Slots) (i : Int) (w : World), n ≤ 1048576 → RowAt w v n f → Calls Tryz.prog fn #[v, .int .i64 i] w (NewRowS (pulledN n i) (pulledF f n i) (pulledS f n i) (hasB n i) w)

end Go.Proofs.YtngbcpmhejeheaaGreatDoor

/-
  The program's FindSlot (chapter 2), by the library's IndexFunc and a closure.
-/
namespace Go.Proofs.YtngbcpmhejeheaaGreatDoor
open Go.RowKit Go.Joins
set_option linter.unusedVariables false
set_option linter.unusedSimpArgs false

set_option maxHeartbeats 400000 in
theorem findClo_is {b : Nat} {id x y : Int} (r : Bool) (hr : (x == id) = r) {w : World} (hc : w.cell? ⟨b, 0, none⟩ = some (.int .i64 id)) :
    Calls Tryz.prog 149 #[.agg #[.int .i64 x, .int .i64 y], .pointer (some ⟨b, 0, none⟩)] w fun e w' => e = .returned (.bool r) ∧ Below w.heap.size w w' := by
  have hl := World.block_lt_of_cell? w _ hc
  have c0 := (World.cell?_alloc_lt w (.cells #[.int .i64 x, .int .i64 y] 131) ⟨b, 0, none⟩ hl).trans hc
  clear hc
  go_enter Tryz.func149, Tryz.ntmps149
  go_wp2
  go_ret
  exact ⟨ret_bool (by first | rfl | exact hr), (Below.refl _ _).alloc (Nat.le_refl _) _⟩

set_option maxRecDepth 100000 in
set_option maxHeartbeats 1000000 in
theorem indexFunc_any {v : Value} {n bx : Nat} {f : Slots} {id : Int} {w : World} (hn : n ≤ 1048576) (h : RowAt w v n f) (hx : w.cell? ⟨bx, 0, none⟩ = some (.int .i64 id)) :
    Calls Tryz.prog 148 #[v, .func (.func 149) #[] #[.pointer (some ⟨bx, 0, none⟩)]] w fun e w' => e = .returned (.int .i64 (findFrom f n id 0)) ∧ Below w.heap.size w w' := by
  have hbx := World.block_lt_of_cell? w _ hx
  have HX := Lib.hid hx
  clear hx
  rcases h with ⟨rfl, a, cap, rfl⟩ | ⟨b, off, cap, rfl, hl, hc⟩
  · rw [findFrom_out (Nat.lt_irrefl 0)]
    go_enter Tryz.func148, Tryz.ntmps148
    go_wp2_with fail
    refine wp_loop_rounds 1 ?_
    rw [rounds_succ]
    go_wp2
    go_ret
    exact ⟨rfl, Below.refl _ _⟩
  · have H := Lib.hid hc
    clear hc
    go_enter Tryz.func148, Tryz.ntmps148
    go_wp2_with fail
    go_loopw [8] (fun i wr => ∃ k : Nat, k ≤ n ∧ i = .int .i64 k ∧ Below w.heap.size w wr ∧ Hid (findFrom f n id 0 = findFrom f n id k)) (fun i _ => n - (intOf i).toNat)
    case atStart => exact ⟨0, Nat.zero_le _, rfl, Below.refl _ _, Lib.hid rfl⟩
    case round =>
      obtain ⟨k, hk, rfl, hbw, hf⟩ := hrel
      by_cases hlt : k < n
      · have c0 := (hbw.cell (p := ⟨b, off + k * 2, none⟩) hl).trans (H.out k hlt).1
        have c1 := (hbw.cell (p := ⟨b, off + k * 2 + 1, none⟩) hl).trans (H.out k hlt).2
        have hx := (hbw.cell (p := ⟨bx, 0, none⟩) hbx).trans HX.out
        have b2 : (k : Int) < (n : Int) := by omega
        by_cases he : (f k).1 = id
        · have hr : ((f k).1 == id) = true := by simpa using he
          have hfk := Lib.hid (hf.out.trans (findFrom_here hlt he))
          clear he hf
          go_wp2_with fail
          go_at_call 149; refine (findClo_is true hr hx).mono ?_; rintro e w1 ⟨rfl, hb⟩
          have hb1 := hbw.trans (hb.mono hbw.size)
          clear c0 c1 hx hbw hb
          go_wp2
          go_ret
          exact ⟨ret_i64 hfk.out.symm, hb1⟩
        · have hr : ((f k).1 == id) = false := by simpa using he
          have hfk := Lib.hid (hf.out.trans (findFrom_next hlt he))
          clear he hf
          go_wp2_with fail
          go_at_call 149; refine (findClo_is false hr hx).mono ?_; rintro e w1 ⟨rfl, hb⟩
          have hb1 := hbw.trans (hb.mono hbw.size)
          clear c0 c1 hx hbw hb
          go_wp2
          exact ⟨⟨k + 1, by omega, by go_num, hb1, hfk⟩, by simp [intOf]; omega⟩
      · have hfk := Lib.hid (hf.out.trans (findFrom_out hlt))
        have b2 : ¬ (k : Int) < (n : Int) := by omega
        have hd : decide (k < n) = false := by simp; omega
        clear hf
        go_wp2
        go_ret
        exact ⟨ret_i64 hfk.out.symm, hbw⟩

set_option maxRecDepth 100000 in
set_option maxHeartbeats 1000000 in
theorem iFindSlot_holds : AsksI 138 findM := by
  intro v n f id w hn h
  have k0 := (Below.refl w.heap.size w).alloc (Nat.le_refl _) (.cells #[.int .i64 id] 2)
  have HR := Lib.hid (h.below k0)
  have hx := cell_of_block (heap_alloc_new w (.cells #[.int .i64 id] 2)) 0
  clear h
  go_enter Tryz.func138, Tryz.ntmps138
  go_wp2_with fail
  go_at_call 148; refine (indexFunc_any hn HR.out hx).mono ?_; rintro e w1 ⟨rfl, hb⟩
  go_wp2
  go_ret
  exact ⟨rfl, k0.trans (hb.mono k0.size)⟩

end Go.Proofs.YtngbcpmhejeheaaGreatDoor

/-
  A memory as the program works with it (chapter 5): how many slots are of deleted timers; is an earlier one overlooked; does each timer stand where it says?
-/
namespace Go.Proofs.YtngbcpmhejeheaaGreatDoor
open Go.RowKit Go.Joins
set_option linter.unusedVariables false
set_option linter.unusedSimpArgs false

set_option maxRecDepth 100000 in
set_option maxHeartbeats 8000000 in
theorem deletedOf_any {mb : Nat} {a b c : Int} {M : Me} {w : World} (htn : M.tn ≤ 1048576) (h : SeenAt w mb a b c M) {v : Value} {n : Nat} {f : Slots} (hn : n ≤ 1048576) (hr : RowAt w v n f) (hids : ∀ i, i < n → hasT M (f i).1 = true) :
    Calls Tryz.prog 122 #[ptrV mb, v] w fun e w' => e = .returned (.int .i64 (delsF M f n)) ∧ Below w.heap.size w w' := by
  obtain ⟨a1, c1, rfl⟩ := hr.form
  have HR := Lib.hid hr
  have HS := Lib.hid h
  have HI := Lib.hid hids
  clear h hr hids
  go_enter Tryz.func122, Tryz.ntmps122
  go_wp2_with fail
  go_loopw [5, 10] (fun z i wr => ∃ (q : Nat) (y : Int), q ≤ n ∧ i = .int .i64 q ∧ z = .int .i64 y ∧ y = delsF M f q ∧ Below w.heap.size w wr) (fun _ i _ => n - (intOf i).toNat)
  case atStart => exact ⟨0, 0, Nat.zero_le _, rfl, rfl, rfl, Below.refl _ _⟩
  case round =>
    obtain ⟨i, y, hi, rfl, rfl, hy, kw⟩ := hrel
    have hyb := dels_le M f i
    rw [← hy] at hyb
    obtain ⟨y0, y1⟩ := hyb
    have HY := Lib.hid hy
    clear hy
    by_cases hlt : i < n
    · rcases HR.out with ⟨h0, _⟩ | ⟨sb, so, scap, ev, hsb, hsc⟩
      · omega
      injection ev with ev1 ev2 ev3
      subst ev1 ev3
      obtain ⟨s0, s1⟩ := hsc i hlt
      replace s0 := (kw.cell (p := ⟨sb, so + i * 2, none⟩) hsb).trans s0
      replace s1 := (kw.cell (p := ⟨sb, so + i * 2 + 1, none⟩) hsb).trans s1
      have i1 : (i : Int) < (n : Int) := by omega
      have i0 : (0 : Int) ≤ (i : Int) := by omega
      obtain ⟨j, hj0⟩ : ∃ j : Nat, (f i).1 = (j : Int) := ⟨((f i).1).toNat, by have := hasT_iff.1 (HI.out i hlt); omega⟩
      have hj : j < M.tn := by have := hasT_iff.1 (HI.out i hlt); omega
      obtain ⟨ky, hky⟩ : ∃ ky : Int, ky = (f i).2 := ⟨_, rfl⟩
      rw [hj0] at s0
      rw [← hky] at s1
      have HJ := Lib.hid (show ((f i).1).toNat = j by rw [hj0]; simp)
      have ks := kw.alloc kw.size (.cells #[.int .i64 (j : Int), .int .i64 ky] 131)
      have hSv := heap_alloc_new wr (.cells #[.int .i64 (j : Int), .int .i64 ky] 131)
      have lS := lt_of_block hSv
      obtain ⟨tv, pv, hM, hT, _⟩ := HS.out.below ks
      rcases hT with ⟨h0, _⟩ | ⟨tb, tof, tc, rfl, htb, htc⟩
      · omega
      have lM := lt_of_block hM
      obtain ⟨m0, m1, m2, m3, m4, m5⟩ := six hM
      have z0 := cell_of_block hSv 0
      have z1 := cell_of_block hSv 1
      obtain ⟨t0, t1, t2, t3, t4, t5, t6, t7⟩ := cells8 (htc j hj)
      have ij0 : (0 : Int) ≤ (j : Int) := by omega
      have ij1 : (j : Int) < (M.tn : Int) := by omega
      clear hky hsc hM hSv htc hj0
      have t0' : (wr.alloc (.cells #[.int .i64 (j : Int), .int .i64 ky] 131)).cell? ⟨tb, tof + j * 8, none⟩ = some (.int .i64 (M.t j).st) := t0
      obtain ⟨st, hst⟩ : ∃ st : Int, st = (M.t j).st := ⟨_, rfl⟩
      rw [← hst] at t0'
      clear t0 t1 t2 t3 t4 t5 t6 t7
      by_cases h5 : st = 5
      · have b5 : (st == 5) = true := by simpa using h5
        have HN := Lib.hid (show y + 1 = delsF M f (i + 1) by rw [delsF, HJ.out, ← hst, if_pos h5, HY.out])
        clear hst h5
        obtain ⟨C, hC⟩ : ∃ C : World → Prop, ∀ w', C w' ↔ (w'.cell? ⟨mb, 4, none⟩ = some (.slice (some ⟨tb, tof, none⟩) M.tn tc) ∧ w'.cell? ⟨wr.heap.size, 0, none⟩ = some (.int .i64 (j : Int)) ∧ w'.cell? ⟨wr.heap.size, 1, none⟩ = some (.int .i64 ky) ∧ w'.cell? ⟨tb, tof + j * 8, none⟩ = some (.int .i64 st) ∧ Below ((wr.alloc (.cells #[.int .i64 (j : Int), .int .i64 ky] 131))).heap.size ((wr.alloc (.cells #[.int .i64 (j : Int), .int .i64 ky] 131))) w') := ⟨_, fun _ => Iff.rfl⟩
        have HCin := Lib.hid (show ∀ w', Below ((wr.alloc (.cells #[.int .i64 (j : Int), .int .i64 ky] 131))).heap.size ((wr.alloc (.cells #[.int .i64 (j : Int), .int .i64 ky] 131))) w' → C w' from fun w' kd => (hC w').2 ⟨(kd.cell (p := ⟨mb, 4, none⟩) lM).trans m4, (kd.cell (p := ⟨wr.heap.size, 0, none⟩) lS).trans z0, (kd.cell (p := ⟨wr.heap.size, 1, none⟩) lS).trans z1, (kd.cell (p := ⟨tb, tof + j * 8, none⟩) htb).trans t0', kd⟩)
        have HC := Lib.hid hC
        clear hC
        go_wp2_with fail
        refine region_quietC (C := C) (by kernel_rfl) (by kernel_rfl) (HCin.out _ (Below.refl _ _).drew) ?_
        repeat (first
          | go_big_quiet_skip
          | (go_big_quiet_want; go_big_quiet_op; go_big_quiet_on)
          | (refine quiet_take (v := ?_) (by rfl) ?_ ?_
             rotate_left
             · intro w' hw'
               obtain ⟨q0, q1, q2, q3, hbel⟩ := (HC.out w').1 hw'
               go_simp
               first
                 | done
                 | exact rfl
             simp only [Act.put, List.setIfInBounds_toArray, List.set_cons_zero, List.set_cons_succ]))
        refine wpQuiet_nil ?_
        intro wq hwq
        obtain ⟨q0, q1, q2, q3, kd⟩ := (HC.out wq).1 hwq
        clear hwq HC HCin
        have kn := ks.trans (kd.mono ks.size)
        go_wp2
        exact ⟨⟨i + 1, _, by omega, by go_num, rfl, HN.out, kn⟩, by simp only [intOf]; omega⟩
      · have b5 : (st == 5) = false := beq_eq_false_iff_ne.2 h5
        have HN := Lib.hid (show y = delsF M f (i + 1) by rw [delsF, HJ.out, ← hst, if_neg h5, HY.out]; simp)
        clear hst h5
        obtain ⟨C, hC⟩ : ∃ C : World → Prop, ∀ w', C w' ↔ (w'.cell? ⟨mb, 4, none⟩ = some (.slice (some ⟨tb, tof, none⟩) M.tn tc) ∧ w'.cell? ⟨wr.heap.size, 0, none⟩ = some (.int .i64 (j : Int)) ∧ w'.cell? ⟨wr.heap.size, 1, none⟩ = some (.int .i64 ky) ∧ w'.cell? ⟨tb, tof + j * 8, none⟩ = some (.int .i64 st) ∧ Below ((wr.alloc (.cells #[.int .i64 (j : Int), .int .i64 ky] 131))).heap.size ((wr.alloc (.cells #[.int .i64 (j : Int), .int .i64 ky] 131))) w') := ⟨_, fun _ => Iff.rfl⟩
        have HCin := Lib.hid (show ∀ w', Below ((wr.alloc (.cells #[.int .i64 (j : Int), .int .i64 ky] 131))).heap.size ((wr.alloc (.cells #[.int .i64 (j : Int), .int .i64 ky] 131))) w' → C w' from fun w' kd => (hC w').2 ⟨(kd.cell (p := ⟨mb, 4, none⟩) lM).trans m4, (kd.cell (p := ⟨wr.heap.size, 0, none⟩) lS).trans z0, (kd.cell (p := ⟨wr.heap.size, 1, none⟩) lS).trans z1, (kd.cell (p := ⟨tb, tof + j * 8, none⟩) htb).trans t0', kd⟩)
        have HC := Lib.hid hC
        clear hC
        go_wp2_with fail
        refine region_quietC (C := C) (by kernel_rfl) (by kernel_rfl) (HCin.out _ (Below.refl _ _).drew) ?_
        repeat (first
          | go_big_quiet_skip
          | (go_big_quiet_want; go_big_quiet_op; go_big_quiet_on)
          | (refine quiet_take (v := ?_) (by rfl) ?_ ?_
             rotate_left
             · intro w' hw'
               obtain ⟨q0, q1, q2, q3, hbel⟩ := (HC.out w').1 hw'
               go_simp
               first
                 | done
                 | exact rfl
             simp only [Act.put, List.setIfInBounds_toArray, List.set_cons_zero, List.set_cons_succ]))
        refine wpQuiet_nil ?_
        intro wq hwq
        obtain ⟨q0, q1, q2, q3, kd⟩ := (HC.out wq).1 hwq
        clear hwq HC HCin
        have kn := ks.trans (kd.mono ks.size)
        go_wp2
        exact ⟨⟨i + 1, _, by omega, by go_num, rfl, HN.out, kn⟩, by simp only [intOf]; omega⟩
    · have hin : i = n := by omega
      have HIN := Lib.hid hin
      have hlt2 : ¬ (i : Int) < (n : Int) := by omega
      clear hin
      go_wp2
      go_ret
      exact ⟨ret_i64 (by rw [← HIN.out, HY.out]), kw⟩

set_option maxRecDepth 100000 in
set_option maxHeartbeats 8000000 in
theorem earliestAgrees_any {mb : Nat} {a b c : Int} {M : Me} {w : World} (htn : M.tn ≤ 1048576) (h : SeenAt w mb a b c M) {v : Value} {n : Nat} {f : Slots} (l e d : Int) (hn : n ≤ 1048576) (hr : RowAt w v n f) (hids : ∀ i, i < n → hasT M (f i).1 = true) :
    Calls Tryz.prog 123 #[ptrV mb, pxV v l e d] w fun x w' => x = .returned (.bool (allB (fun i => !ovB e (M.t ((f i).1).toNat)) n)) ∧ Below w.heap.size w w' := by
  obtain ⟨a1, c1, rfl⟩ := hr.form
  have k0 := (Below.refl w.heap.size w).alloc (Nat.le_refl _) (pxB (.slice a1 n c1) l e d)
  have hX := heap_alloc_new w (pxB (.slice a1 n c1) l e d)
  have HXB := Lib.hid hX
  have HR := Lib.hid hr
  have HS := Lib.hid h
  have HI := Lib.hid hids
  obtain ⟨x0, x1, x2, x3, _, _, _, _⟩ := four hX
  have lX0 := lt_of_block hX
  clear h hr hids hX
  go_enter Tryz.func123, Tryz.ntmps123
  go_wp2_with fail
  clear x0 x1 x2 x3
  go_loopw [10] (fun i wr => ∃ q : Nat, q ≤ n ∧ i = .int .i64 q ∧ Hid (allB (fun i => !ovB e (M.t ((f i).1).toNat)) q = true) ∧ Below (w.alloc (pxB (.slice a1 n c1) l e d)).heap.size (w.alloc (pxB (.slice a1 n c1) l e d)) wr) (fun i _ => n - (intOf i).toNat)
  case atStart => exact ⟨0, Nat.zero_le _, rfl, Lib.hid rfl, Below.refl _ _⟩
  case round =>
    obtain ⟨i, hi, rfl, hok, kx⟩ := hrel
    have kw := k0.trans (kx.mono k0.size)
    by_cases hlt : i < n
    · rcases HR.out with ⟨h0, _⟩ | ⟨sb, so, scap, ev, hsb, hsc⟩
      · omega
      injection ev with ev1 ev2 ev3
      subst ev1 ev3
      obtain ⟨s0, s1⟩ := hsc i hlt
      replace s0 := (kw.cell (p := ⟨sb, so + i * 2, none⟩) hsb).trans s0
      replace s1 := (kw.cell (p := ⟨sb, so + i * 2 + 1, none⟩) hsb).trans s1
      have i1 : (i : Int) < (n : Int) := by omega
      have i0 : (0 : Int) ≤ (i : Int) := by omega
      obtain ⟨j, hj0⟩ : ∃ j : Nat, (f i).1 = (j : Int) := ⟨((f i).1).toNat, by have := hasT_iff.1 (HI.out i hlt); omega⟩
      have hj : j < M.tn := by have := hasT_iff.1 (HI.out i hlt); omega
      obtain ⟨ky, hky⟩ : ∃ ky : Int, ky = (f i).2 := ⟨_, rfl⟩
      rw [hj0] at s0
      rw [← hky] at s1
      have HJ := Lib.hid (show ((f i).1).toNat = j by rw [hj0]; simp)
      have ks := kw.alloc kw.size (.cells #[.int .i64 (j : Int), .int .i64 ky] 131)
      have hSv := heap_alloc_new wr (.cells #[.int .i64 (j : Int), .int .i64 ky] 131)
      have lS := lt_of_block hSv
      obtain ⟨tv, pv, hM, hT, _⟩ := HS.out.below ks
      rcases hT with ⟨h0, _⟩ | ⟨tb, tof, tc, rfl, htb, htc⟩
      · omega
      have lM := lt_of_block hM
      obtain ⟨m0, m1, m2, m3, m4, m5⟩ := six hM
      have z0 := cell_of_block hSv 0
      have z1 := cell_of_block hSv 1
      obtain ⟨t0, t1, t2, t3, t4, t5, t6, t7⟩ := cells8 (htc j hj)
      have ij0 : (0 : Int) ≤ (j : Int) := by omega
      have ij1 : (j : Int) < (M.tn : Int) := by omega
      clear hky hsc hM hSv htc hj0
      have hXa := alloc_block (.cells #[.int .i64 (j : Int), .int .i64 ky] 131) (b_block kx HXB.out lX0)
      have lX := lt_of_block hXa
      obtain ⟨x0, x1, x2, x3, _, _, _, _⟩ := four hXa
      clear hXa
      cases ho : ovB e (M.t j)
      · have HN := Lib.hid (show allB (fun i => !ovB e (M.t ((f i).1).toNat)) (i + 1) = true by rw [allB, hok.out, Bool.true_and]; show (!ovB e (M.t ((f i).1).toNat)) = true; rw [HJ.out, ho]; rfl)
        have HO := Lib.hid ho
        clear ho
        obtain ⟨C, hC⟩ : ∃ C : World → Prop, ∀ w', C w' ↔ (w'.cell? ⟨mb, 4, none⟩ = some (.slice (some ⟨tb, tof, none⟩) M.tn tc) ∧ w'.cell? ⟨wr.heap.size, 0, none⟩ = some (.int .i64 (j : Int)) ∧ w'.cell? ⟨wr.heap.size, 1, none⟩ = some (.int .i64 ky) ∧ w'.cell? ⟨w.heap.size, 0, none⟩ = some (.int .i64 l) ∧ w'.cell? ⟨w.heap.size, 1, none⟩ = some (.slice (some ⟨sb, so, none⟩) n c1) ∧ w'.cell? ⟨w.heap.size, 2, none⟩ = some (.int .i64 e) ∧ w'.cell? ⟨w.heap.size, 3, none⟩ = some (.int .i64 d) ∧ w'.cell? ⟨tb, tof + j * 8, none⟩ = some (.int .i64 (M.t j).st) ∧ w'.cell? ⟨tb, tof + j * 8 + 1, none⟩ = some (.int .i64 (M.t j).wh) ∧ w'.cell? ⟨tb, tof + j * 8 + 2, none⟩ = some (.int .i64 (M.t j).nx) ∧ w'.cell? ⟨tb, tof + j * 8 + 3, none⟩ = some (.int .i64 (M.t j).pe) ∧ w'.cell? ⟨tb, tof + j * 8 + 4, none⟩ = some (.int .i64 (M.t j).pl) ∧ w'.cell? ⟨tb, tof + j * 8 + 5, none⟩ = some (.int .i64 (M.t j).ge) ∧ w'.cell? ⟨tb, tof + j * 8 + 6, none⟩ = some (.int .i64 (M.t j).ki) ∧ w'.cell? ⟨tb, tof + j * 8 + 7, none⟩ = some (.int .i64 (M.t j).ma) ∧ Below ((wr.alloc (.cells #[.int .i64 (j : Int), .int .i64 ky] 131))).heap.size ((wr.alloc (.cells #[.int .i64 (j : Int), .int .i64 ky] 131))) w') := ⟨_, fun _ => Iff.rfl⟩
        have HCin := Lib.hid (show ∀ w', Below ((wr.alloc (.cells #[.int .i64 (j : Int), .int .i64 ky] 131))).heap.size ((wr.alloc (.cells #[.int .i64 (j : Int), .int .i64 ky] 131))) w' → C w' from fun w' kd => (hC w').2 ⟨(kd.cell (p := ⟨mb, 4, none⟩) lM).trans m4, (kd.cell (p := ⟨wr.heap.size, 0, none⟩) lS).trans z0, (kd.cell (p := ⟨wr.heap.size, 1, none⟩) lS).trans z1, (kd.cell (p := ⟨w.heap.size, 0, none⟩) lX).trans x0, (kd.cell (p := ⟨w.heap.size, 1, none⟩) lX).trans x1, (kd.cell (p := ⟨w.heap.size, 2, none⟩) lX).trans x2, (kd.cell (p := ⟨w.heap.size, 3, none⟩) lX).trans x3, (kd.cell (p := ⟨tb, tof + j * 8, none⟩) htb).trans t0, (kd.cell (p := ⟨tb, tof + j * 8 + 1, none⟩) htb).trans t1, (kd.cell (p := ⟨tb, tof + j * 8 + 2, none⟩) htb).trans t2, (kd.cell (p := ⟨tb, tof + j * 8 + 3, none⟩) htb).trans t3, (kd.cell (p := ⟨tb, tof + j * 8 + 4, none⟩) htb).trans t4, (kd.cell (p := ⟨tb, tof + j * 8 + 5, none⟩) htb).trans t5, (kd.cell (p := ⟨tb, tof + j * 8 + 6, none⟩) htb).trans t6, (kd.cell (p := ⟨tb, tof + j * 8 + 7, none⟩) htb).trans t7, kd⟩)
        have HC := Lib.hid hC
        have HFn0 : ∀ W : World, Below ((wr.alloc (.cells #[.int .i64 (j : Int), .int .i64 ky] 131))).heap.size ((wr.alloc (.cells #[.int .i64 (j : Int), .int .i64 ky] 131))) W → Calls Tryz.prog 137 #[pxV (.slice (some ⟨sb, so, none⟩) n c1) l e d, tmV (M.t j)] W (fun e w'' => e = .returned (.bool false) ∧ Below W.heap.size W w'') := fun W hW => by have := overlooks_any (v := .slice (some ⟨sb, so, none⟩) n c1) l e d (M.t j) (w := W) ⟨_, _, rfl⟩; rw [HO.out] at this; exact this
        have HCall0 := Lib.hid (show ∀ w', C w' → Calls Tryz.prog 137 #[pxV (.slice (some ⟨sb, so, none⟩) n c1) l e d, tmV (M.t j)] w' (fun e w'' => e = .returned (.bool false) ∧ C w'') from fun w' hw' => (HFn0 w' ((HC.out w').1 hw').2.2.2.2.2.2.2.2.2.2.2.2.2.2.2).mono (fun e w'' hx => ⟨hx.1, HCin.out _ ((((HC.out w').1 hw').2.2.2.2.2.2.2.2.2.2.2.2.2.2.2).trans (hx.2.mono (((HC.out w').1 hw').2.2.2.2.2.2.2.2.2.2.2.2.2.2.2).size))⟩))
        clear hC HFn0
        go_wp2_with fail
        refine region_quietC (C := C) (by kernel_rfl) (by kernel_rfl) (HCin.out _ (Below.refl _ _).drew) ?_
        repeat (first
          | go_big_quiet_skip
          | (go_big_quiet_want; go_big_quiet_op; go_big_quiet_on)
          | (refine quiet_take (v := ?_) (by rfl) ?_ ?_
             rotate_left
             · intro w' hw'
               obtain ⟨q0, q1, q2, q3, q4, q5, q6, q7, q8, q9, q10, q11, q12, q13, q14, hbel⟩ := (HC.out w').1 hw'
               go_simp
               first
                 | done
                 | exact rfl
                 | exact HCall0.out w' hw'
             simp only [Act.put, List.setIfInBounds_toArray, List.set_cons_zero, List.set_cons_succ]))
        refine wpQuiet_nil ?_
        intro wq hwq
        obtain ⟨q0, q1, q2, q3, q4, q5, q6, q7, q8, q9, q10, q11, q12, q13, q14, kd⟩ := (HC.out wq).1 hwq
        clear hwq HCall0 HC HCin
        have kn := (kx.alloc kx.size (.cells #[.int .i64 (j : Int), .int .i64 ky] 131)).trans (kd.mono (Nat.le_trans kx.size (World.grownBy_alloc wr _ none).size))
        clear kx kw ks
        go_wp2
        exact ⟨⟨i + 1, by omega, by go_num, HN, kn⟩, by simp only [intOf]; omega⟩
      · have HBAD := Lib.hid (show allB (fun i => !ovB e (M.t ((f i).1).toNat)) n = false from allB_bad (i := i) (by show (!ovB e (M.t ((f i).1).toNat)) = false; rw [HJ.out, ho]; rfl) _ hlt)
        have HO := Lib.hid ho
        clear ho
        obtain ⟨C, hC⟩ : ∃ C : World → Prop, ∀ w', C w' ↔ (w'.cell? ⟨mb, 4, none⟩ = some (.slice (some ⟨tb, tof, none⟩) M.tn tc) ∧ w'.cell? ⟨wr.heap.size, 0, none⟩ = some (.int .i64 (j : Int)) ∧ w'.cell? ⟨wr.heap.size, 1, none⟩ = some (.int .i64 ky) ∧ w'.cell? ⟨w.heap.size, 0, none⟩ = some (.int .i64 l) ∧ w'.cell? ⟨w.heap.size, 1, none⟩ = some (.slice (some ⟨sb, so, none⟩) n c1) ∧ w'.cell? ⟨w.heap.size, 2, none⟩ = some (.int .i64 e) ∧ w'.cell? ⟨w.heap.size, 3, none⟩ = some (.int .i64 d) ∧ w'.cell? ⟨tb, tof + j * 8, none⟩ = some (.int .i64 (M.t j).st) ∧ w'.cell? ⟨tb, tof + j * 8 + 1, none⟩ = some (.int .i64 (M.t j).wh) ∧ w'.cell? ⟨tb, tof + j * 8 + 2, none⟩ = some (.int .i64 (M.t j).nx) ∧ w'.cell? ⟨tb, tof + j * 8 + 3, none⟩ = some (.int .i64 (M.t j).pe) ∧ w'.cell? ⟨tb, tof + j * 8 + 4, none⟩ = some (.int .i64 (M.t j).pl) ∧ w'.cell? ⟨tb, tof + j * 8 + 5, none⟩ = some (.int .i64 (M.t j).ge) ∧ w'.cell? ⟨tb, tof + j * 8 + 6, none⟩ = some (.int .i64 (M.t j).ki) ∧ w'.cell? ⟨tb, tof + j * 8 + 7, none⟩ = some (.int .i64 (M.t j).ma) ∧ Below ((wr.alloc (.cells #[.int .i64 (j : Int), .int .i64 ky] 131))).heap.size ((wr.alloc (.cells #[.int .i64 (j : Int), .int .i64 ky] 131))) w') := ⟨_, fun _ => Iff.rfl⟩
        have HCin := Lib.hid (show ∀ w', Below ((wr.alloc (.cells #[.int .i64 (j : Int), .int .i64 ky] 131))).heap.size ((wr.alloc (.cells #[.int .i64 (j : Int), .int .i64 ky] 131))) w' → C w' from fun w' kd => (hC w').2 ⟨(kd.cell (p := ⟨mb, 4, none⟩) lM).trans m4, (kd.cell (p := ⟨wr.heap.size, 0, none⟩) lS).trans z0, (kd.cell (p := ⟨wr.heap.size, 1, none⟩) lS).trans z1, (kd.cell (p := ⟨w.heap.size, 0, none⟩) lX).trans x0, (kd.cell (p := ⟨w.heap.size, 1, none⟩) lX).trans x1, (kd.cell (p := ⟨w.heap.size, 2, none⟩) lX).trans x2, (kd.cell (p := ⟨w.heap.size, 3, none⟩) lX).trans x3, (kd.cell (p := ⟨tb, tof + j * 8, none⟩) htb).trans t0, (kd.cell (p := ⟨tb, tof + j * 8 + 1, none⟩) htb).trans t1, (kd.cell (p := ⟨tb, tof + j * 8 + 2, none⟩) htb).trans t2, (kd.cell (p := ⟨tb, tof + j * 8 + 3, none⟩) htb).trans t3, (kd.cell (p := ⟨tb, tof + j * 8 + 4, none⟩) htb).trans t4, (kd.cell (p := ⟨tb, tof + j * 8 + 5, none⟩) htb).trans t5, (kd.cell (p := ⟨tb, tof + j * 8 + 6, none⟩) htb).trans t6, (kd.cell (p := ⟨tb, tof + j * 8 + 7, none⟩) htb).trans t7, kd⟩)
        have HC := Lib.hid hC
        have HFn0 : ∀ W : World, Below ((wr.alloc (.cells #[.int .i64 (j : Int), .int .i64 ky] 131))).heap.size ((wr.alloc (.cells #[.int .i64 (j : Int), .int .i64 ky] 131))) W → Calls Tryz.prog 137 #[pxV (.slice (some ⟨sb, so, none⟩) n c1) l e d, tmV (M.t j)] W (fun e w'' => e = .returned (.bool true) ∧ Below W.heap.size W w'') := fun W hW => by have := overlooks_any (v := .slice (some ⟨sb, so, none⟩) n c1) l e d (M.t j) (w := W) ⟨_, _, rfl⟩; rw [HO.out] at this; exact this
        have HCall0 := Lib.hid (show ∀ w', C w' → Calls Tryz.prog 137 #[pxV (.slice (some ⟨sb, so, none⟩) n c1) l e d, tmV (M.t j)] w' (fun e w'' => e = .returned (.bool true) ∧ C w'') from fun w' hw' => (HFn0 w' ((HC.out w').1 hw').2.2.2.2.2.2.2.2.2.2.2.2.2.2.2).mono (fun e w'' hx => ⟨hx.1, HCin.out _ ((((HC.out w').1 hw').2.2.2.2.2.2.2.2.2.2.2.2.2.2.2).trans (hx.2.mono (((HC.out w').1 hw').2.2.2.2.2.2.2.2.2.2.2.2.2.2.2).size))⟩))
        clear hC HFn0
        go_wp2_with fail
        refine region_quietC (C := C) (by kernel_rfl) (by kernel_rfl) (HCin.out _ (Below.refl _ _).drew) ?_
        repeat (first
          | go_big_quiet_skip
          | (go_big_quiet_want; go_big_quiet_op; go_big_quiet_on)
          | (refine quiet_take (v := ?_) (by rfl) ?_ ?_
             rotate_left
             · intro w' hw'
               obtain ⟨q0, q1, q2, q3, q4, q5, q6, q7, q8, q9, q10, q11, q12, q13, q14, hbel⟩ := (HC.out w').1 hw'
               go_simp
               first
                 | done
                 | exact rfl
                 | exact HCall0.out w' hw'
             simp only [Act.put, List.setIfInBounds_toArray, List.set_cons_zero, List.set_cons_succ]))
        refine wpQuiet_nil ?_
        intro wq hwq
        obtain ⟨q0, q1, q2, q3, q4, q5, q6, q7, q8, q9, q10, q11, q12, q13, q14, kd⟩ := (HC.out wq).1 hwq
        clear hwq HCall0 HC HCin
        go_wp2
        go_ret
        exact ⟨ret_bool' HBAD.out.symm, ks.trans (kd.mono ks.size)⟩
    · have hin : i = n := by omega
      have HIN := Lib.hid hin
      have hlt2 : ¬ (i : Int) < (n : Int) := by omega
      clear hin
      go_wp2
      go_ret
      exact ⟨ret_bool' (by rw [← HIN.out, hok.out]), kw⟩

/-- does the timer i stand where it says? -/
def placeOkB (M : Me) (i : Nat) : Bool := (M.t i).pl == -1 || !decide (findFrom (M.p (M.t i).pl.toNat).f (M.p (M.t i).pl.toNat).n (i : Int) 0 < 0)
set_option maxRecDepth 100000 in
set_option maxHeartbeats 8000000 in
theorem placesAgree_any {mb : Nat} {a b c : Int} {M : Me} {w : World} (hs : sizeM M ≤ 1048576) (h : SeenAt w mb a b c M) (hpl : ∀ i, i < M.tn → (M.t i).pl = -1 ∨ 0 ≤ (M.t i).pl ∧ (M.t i).pl < (M.pn : Int)) :
    Calls Tryz.prog 124 #[ptrV mb] w fun e w' => e = .returned (.bool (allB (placeOkB M) M.tn)) ∧ Below w.heap.size w w' := by
  obtain ⟨htn, hpn, hsl, hns⟩ := sizeM_le hs
  have HS := Lib.hid h
  have HPL := Lib.hid hpl
  have HNS := Lib.hid hns
  obtain ⟨tv, pv, hM0, hT0, hP0⟩ := h
  obtain ⟨ta, tc, htv⟩ := hT0.form
  obtain ⟨qa, qc, hpv⟩ := hP0.form
  subst htv hpv
  have lM0 := lt_of_block hM0
  have HM0 := Lib.hid hM0
  have HT0 := Lib.hid hT0
  have HP0 := Lib.hid hP0
  obtain ⟨n0, n1, n2, n3, n4, n5⟩ := six hM0
  clear hpl hns hsl hM0 hT0 hP0
  go_enter Tryz.func124, Tryz.ntmps124
  go_wp2_with fail
  clear n0 n1 n2 n3 n4 n5
  go_loopw [10] (fun i wr => ∃ q : Nat, q ≤ M.tn ∧ i = .int .i64 q ∧ Hid (allB (placeOkB M) q = true) ∧ Below w.heap.size w wr) (fun i _ => M.tn - (intOf i).toNat)
  case atStart => exact ⟨0, Nat.zero_le _, rfl, Lib.hid rfl, Below.refl _ _⟩
  case round =>
    obtain ⟨i, hi, rfl, hok, kw⟩ := hrel
    by_cases hlt : i < M.tn
    · rcases HT0.out with ⟨h0, _⟩ | ⟨tb, tof, tcap, ev, htb, htc⟩
      · omega
      injection ev with ev1 ev2 ev3
      subst ev1 ev3
      have i1 : (i : Int) < (M.tn : Int) := by omega
      have i0 : (0 : Int) ≤ (i : Int) := by omega
      obtain ⟨t0, t1, t2, t3, t4, t5, t6, t7⟩ := cells8 (w := wr) (b := tb) (o := tof + i * 8) (t := M.t i) (fun q hq => (kw.cell (p := ⟨tb, tof + i * 8 + q, none⟩) htb).trans (htc i hlt q hq))
      have ks := kw.alloc kw.size (.cells (tmCells (M.t i)) 80)
      have hSv := heap_alloc_new wr (.cells (tmCells (M.t i)) 80)
      have lS := lt_of_block hSv
      have hM := b_block ks HM0.out lM0
      have lM := lt_of_block hM
      obtain ⟨m0, m1, m2, m3, m4, m5⟩ := six hM
      obtain ⟨z0, z1, z2, z3, z4, z5, z6, z7⟩ := tm_cells hSv
      clear hSv hM htc
      by_cases hp1 : (M.t i).pl = -1
      · have HN := Lib.hid (show allB (placeOkB M) (i + 1) = true by rw [allB, hok.out, Bool.true_and]; unfold placeOkB; rw [hp1]; rfl)
        obtain ⟨T, hTe⟩ : ∃ T : Tm, T = M.t i := ⟨_, rfl⟩
        rw [← hTe] at t0 t1 t2 t3 t4 t5 t6 t7 z0 z1 z2 z3 z4 z5 z6 z7 hp1 ks lS lM m0 m1 m2 m3 m4 m5
        have bp : (T.pl != -1) = false := by rw [hp1]; rfl
        have HTe := Lib.hid hTe
        clear hp1 hTe
        obtain ⟨C, hC⟩ : ∃ C : World → Prop, ∀ w', C w' ↔ (w'.cell? ⟨mb, 5, none⟩ = some (.slice qa M.pn qc) ∧ w'.cell? ⟨wr.heap.size, 0, none⟩ = some (.int .i64 T.st) ∧ w'.cell? ⟨wr.heap.size, 1, none⟩ = some (.int .i64 T.wh) ∧ w'.cell? ⟨wr.heap.size, 2, none⟩ = some (.int .i64 T.nx) ∧ w'.cell? ⟨wr.heap.size, 3, none⟩ = some (.int .i64 T.pe) ∧ w'.cell? ⟨wr.heap.size, 4, none⟩ = some (.int .i64 T.pl) ∧ w'.cell? ⟨wr.heap.size, 5, none⟩ = some (.int .i64 T.ge) ∧ w'.cell? ⟨wr.heap.size, 6, none⟩ = some (.int .i64 T.ki) ∧ w'.cell? ⟨wr.heap.size, 7, none⟩ = some (.int .i64 T.ma) ∧ Below ((wr.alloc (.cells (tmCells T) 80))).heap.size ((wr.alloc (.cells (tmCells T) 80))) w') := ⟨_, fun _ => Iff.rfl⟩
        have HCin := Lib.hid (show ∀ w', Below ((wr.alloc (.cells (tmCells T) 80))).heap.size ((wr.alloc (.cells (tmCells T) 80))) w' → C w' from fun w' kd => (hC w').2 ⟨(kd.cell (p := ⟨mb, 5, none⟩) lM).trans m5, (kd.cell (p := ⟨wr.heap.size, 0, none⟩) lS).trans z0, (kd.cell (p := ⟨wr.heap.size, 1, none⟩) lS).trans z1, (kd.cell (p := ⟨wr.heap.size, 2, none⟩) lS).trans z2, (kd.cell (p := ⟨wr.heap.size, 3, none⟩) lS).trans z3, (kd.cell (p := ⟨wr.heap.size, 4, none⟩) lS).trans z4, (kd.cell (p := ⟨wr.heap.size, 5, none⟩) lS).trans z5, (kd.cell (p := ⟨wr.heap.size, 6, none⟩) lS).trans z6, (kd.cell (p := ⟨wr.heap.size, 7, none⟩) lS).trans z7, kd⟩)
        have HC := Lib.hid hC
        clear hC
        go_wp2_with fail
        refine region_quietC (C := C) (by kernel_rfl) (by kernel_rfl) (HCin.out _ (Below.refl _ _).drew) ?_
        repeat (first
          | go_big_quiet_skip
          | (go_big_quiet_want; go_big_quiet_op; go_big_quiet_on)
          | (refine quiet_take (v := ?_) (by rfl) ?_ ?_
             rotate_left
             · intro w' hw'
               obtain ⟨q0, q1, q2, q3, q4, q5, q6, q7, q8, hbel⟩ := (HC.out w').1 hw'
               go_simp
               first
                 | done
                 | exact rfl
             simp only [Act.put, List.setIfInBounds_toArray, List.set_cons_zero, List.set_cons_succ]))
        refine wpQuiet_nil ?_
        intro wq hwq
        obtain ⟨q0, q1, q2, q3, q4, q5, q6, q7, q8, kd⟩ := (HC.out wq).1 hwq
        clear hwq HC HCin
        have kn := ks.trans (kd.mono ks.size)
        go_wp2
        exact ⟨⟨i + 1, by omega, by go_num, HN, kn⟩, by simp only [intOf]; omega⟩
      · have hp2 : 0 ≤ (M.t i).pl ∧ (M.t i).pl < (M.pn : Int) := by
          rcases HPL.out i hlt with h | h
          · exact absurd h hp1
          · exact h
        have hgn : (M.t i).pl.toNat < M.pn := by omega
        rcases HP0.out with ⟨h0, _⟩ | ⟨pb, po, pcap, ev, hpb, hpc⟩
        · omega
        injection ev with ev1 ev2 ev3
        subst ev1 ev3
        have hpcg := hpc _ hgn
        have hng := HNS.out _ hgn
        have hplB := Lib.hid (show placeOkB M i = !decide (findFrom (M.p (M.t i).pl.toNat).f (M.p (M.t i).pl.toNat).n (i : Int) 0 < 0) by unfold placeOkB; rw [show ((M.t i).pl == -1) = false from beq_eq_false_iff_ne.2 hp1, Bool.false_or])
        obtain ⟨T, hTe⟩ : ∃ T : Tm, T = M.t i := ⟨_, rfl⟩
        rw [← hTe] at t0 t1 t2 t3 t4 t5 t6 t7 z0 z1 z2 z3 z4 z5 z6 z7 hp1 hp2 ks lS lM m0 m1 m2 m3 m4 m5 hpcg hng hplB
        obtain ⟨G, hG⟩ : ∃ G : Pc, G = M.p T.pl.toNat := ⟨_, rfl⟩
        rw [← hG] at hpcg hng hplB
        obtain ⟨xa, xc, p0, p1, p2, p3, hrow⟩ := hpcg
        replace p1 := (ks.cell (p := ⟨pb, po + T.pl.toNat * 4 + 1, none⟩) hpb).trans p1
        have lP := Nat.lt_of_lt_of_le hpb ks.size
        obtain ⟨r, hr⟩ : ∃ r : Int, r = findFrom G.f G.n (i : Int) 0 := ⟨_, rfl⟩
        have HF := Lib.hid (fun (W : World) (hW : Below w.heap.size w W) => by have := iFindSlot_holds _ _ G.f (i : Int) W hng (hrow.below hW); rw [show findM G.f G.n (i : Int) = r from hr.symm] at this; exact this)
        have HB := Lib.hid (show placeOkB M i = !decide (r < 0) by rw [hplB.out, hr])
        have bp : (T.pl != -1) = true := by rw [bne, beq_eq_false_iff_ne.2 hp1]; rfl
        obtain ⟨g0, g1⟩ := hp2
        have HTe := Lib.hid hTe
        have HG := Lib.hid hG
        clear hr hrow hpc p0 p2 p3 hp1 hTe hG hplB hgn
        cases hr0 : decide (r < 0)
        · have HN := Lib.hid (show allB (placeOkB M) (i + 1) = true by rw [allB, hok.out, Bool.true_and, HB.out, hr0]; rfl)
          obtain ⟨C, hC⟩ : ∃ C : World → Prop, ∀ w', C w' ↔ (w'.cell? ⟨mb, 5, none⟩ = some (.slice (some ⟨pb, po, none⟩) M.pn qc) ∧ w'.cell? ⟨pb, po + T.pl.toNat * 4 + 1, none⟩ = some (.slice xa G.n xc) ∧ w'.cell? ⟨wr.heap.size, 0, none⟩ = some (.int .i64 T.st) ∧ w'.cell? ⟨wr.heap.size, 1, none⟩ = some (.int .i64 T.wh) ∧ w'.cell? ⟨wr.heap.size, 2, none⟩ = some (.int .i64 T.nx) ∧ w'.cell? ⟨wr.heap.size, 3, none⟩ = some (.int .i64 T.pe) ∧ w'.cell? ⟨wr.heap.size, 4, none⟩ = some (.int .i64 T.pl) ∧ w'.cell? ⟨wr.heap.size, 5, none⟩ = some (.int .i64 T.ge) ∧ w'.cell? ⟨wr.heap.size, 6, none⟩ = some (.int .i64 T.ki) ∧ w'.cell? ⟨wr.heap.size, 7, none⟩ = some (.int .i64 T.ma) ∧ Below ((wr.alloc (.cells (tmCells T) 80))).heap.size ((wr.alloc (.cells (tmCells T) 80))) w') := ⟨_, fun _ => Iff.rfl⟩
          have HCin := Lib.hid (show ∀ w', Below ((wr.alloc (.cells (tmCells T) 80))).heap.size ((wr.alloc (.cells (tmCells T) 80))) w' → C w' from fun w' kd => (hC w').2 ⟨(kd.cell (p := ⟨mb, 5, none⟩) lM).trans m5, (kd.cell (p := ⟨pb, po + T.pl.toNat * 4 + 1, none⟩) lP).trans p1, (kd.cell (p := ⟨wr.heap.size, 0, none⟩) lS).trans z0, (kd.cell (p := ⟨wr.heap.size, 1, none⟩) lS).trans z1, (kd.cell (p := ⟨wr.heap.size, 2, none⟩) lS).trans z2, (kd.cell (p := ⟨wr.heap.size, 3, none⟩) lS).trans z3, (kd.cell (p := ⟨wr.heap.size, 4, none⟩) lS).trans z4, (kd.cell (p := ⟨wr.heap.size, 5, none⟩) lS).trans z5, (kd.cell (p := ⟨wr.heap.size, 6, none⟩) lS).trans z6, (kd.cell (p := ⟨wr.heap.size, 7, none⟩) lS).trans z7, kd⟩)
          have HC := Lib.hid hC
          have HFn0 : ∀ W : World, Below ((wr.alloc (.cells (tmCells T) 80))).heap.size ((wr.alloc (.cells (tmCells T) 80))) W → Calls Tryz.prog 138 #[.slice xa G.n xc, .int .i64 (i : Int)] W (fun e w'' => e = .returned (.int .i64 r) ∧ Below W.heap.size W w'') := fun W hW => HF.out W (ks.trans (hW.mono ks.size))
          have HCall0 := Lib.hid (show ∀ w', C w' → Calls Tryz.prog 138 #[.slice xa G.n xc, .int .i64 (i : Int)] w' (fun e w'' => e = .returned (.int .i64 r) ∧ C w'') from fun w' hw' => (HFn0 w' ((HC.out w').1 hw').2.2.2.2.2.2.2.2.2.2).mono (fun e w'' hx => ⟨hx.1, HCin.out _ ((((HC.out w').1 hw').2.2.2.2.2.2.2.2.2.2).trans (hx.2.mono (((HC.out w').1 hw').2.2.2.2.2.2.2.2.2.2).size))⟩))
          clear hC HFn0
          go_wp2_with fail
          refine region_quietC (C := C) (by kernel_rfl) (by kernel_rfl) (HCin.out _ (Below.refl _ _).drew) ?_
          repeat (first
            | go_big_quiet_skip
            | (go_big_quiet_want; go_big_quiet_op; go_big_quiet_on)
            | (refine quiet_take (v := ?_) (by rfl) ?_ ?_
               rotate_left
               · intro w' hw'
                 obtain ⟨q0, q1, q2, q3, q4, q5, q6, q7, q8, q9, hbel⟩ := (HC.out w').1 hw'
                 go_simp
                 first
                   | done
                   | exact rfl
                   | exact HCall0.out w' hw'
               simp only [Act.put, List.setIfInBounds_toArray, List.set_cons_zero, List.set_cons_succ]))
          refine wpQuiet_nil ?_
          intro wq hwq
          obtain ⟨q0, q1, q2, q3, q4, q5, q6, q7, q8, q9, kd⟩ := (HC.out wq).1 hwq
          clear hwq HCall0 HC HCin
          have kn := ks.trans (kd.mono ks.size)
          go_wp2
          exact ⟨⟨i + 1, by omega, by go_num, HN, kn⟩, by simp only [intOf]; omega⟩
        · have HBAD := Lib.hid (show allB (placeOkB M) M.tn = false from allB_bad (i := i) (by rw [HB.out, hr0]; rfl) _ hlt)
          obtain ⟨C, hC⟩ : ∃ C : World → Prop, ∀ w', C w' ↔ (w'.cell? ⟨mb, 5, none⟩ = some (.slice (some ⟨pb, po, none⟩) M.pn qc) ∧ w'.cell? ⟨pb, po + T.pl.toNat * 4 + 1, none⟩ = some (.slice xa G.n xc) ∧ w'.cell? ⟨wr.heap.size, 0, none⟩ = some (.int .i64 T.st) ∧ w'.cell? ⟨wr.heap.size, 1, none⟩ = some (.int .i64 T.wh) ∧ w'.cell? ⟨wr.heap.size, 2, none⟩ = some (.int .i64 T.nx) ∧ w'.cell? ⟨wr.heap.size, 3, none⟩ = some (.int .i64 T.pe) ∧ w'.cell? ⟨wr.heap.size, 4, none⟩ = some (.int .i64 T.pl) ∧ w'.cell? ⟨wr.heap.size, 5, none⟩ = some (.int .i64 T.ge) ∧ w'.cell? ⟨wr.heap.size, 6, none⟩ = some (.int .i64 T.ki) ∧ w'.cell? ⟨wr.heap.size, 7, none⟩ = some (.int .i64 T.ma) ∧ Below ((wr.alloc (.cells (tmCells T) 80))).heap.size ((wr.alloc (.cells (tmCells T) 80))) w') := ⟨_, fun _ => Iff.rfl⟩
          have HCin := Lib.hid (show ∀ w', Below ((wr.alloc (.cells (tmCells T) 80))).heap.size ((wr.alloc (.cells (tmCells T) 80))) w' → C w' from fun w' kd => (hC w').2 ⟨(kd.cell (p := ⟨mb, 5, none⟩) lM).trans m5, (kd.cell (p := ⟨pb, po + T.pl.toNat * 4 + 1, none⟩) lP).trans p1, (kd.cell (p := ⟨wr.heap.size, 0, none⟩) lS).trans z0, (kd.cell (p := ⟨wr.heap.size, 1, none⟩) lS).trans z1, (kd.cell (p := ⟨wr.heap.size, 2, none⟩) lS).trans z2, (kd.cell (p := ⟨wr.heap.size, 3, none⟩) lS).trans z3, (kd.cell (p := ⟨wr.heap.size, 4, none⟩) lS).trans z4, (kd.cell (p := ⟨wr.heap.size, 5, none⟩) lS).trans z5, (kd.cell (p := ⟨wr.heap.size, 6, none⟩) lS).trans z6, (kd.cell (p := ⟨wr.heap.size, 7, none⟩) lS).trans z7, kd⟩)
          have HC := Lib.hid hC
          have HFn0 : ∀ W : World, Below ((wr.alloc (.cells (tmCells T) 80))).heap.size ((wr.alloc (.cells (tmCells T) 80))) W → Calls Tryz.prog 138 #[.slice xa G.n xc, .int .i64 (i : Int)] W (fun e w'' => e = .returned (.int .i64 r) ∧ Below W.heap.size W w'') := fun W hW => HF.out W (ks.trans (hW.mono ks.size))
          have HCall0 := Lib.hid (show ∀ w', C w' → Calls Tryz.prog 138 #[.slice xa G.n xc, .int .i64 (i : Int)] w' (fun e w'' => e = .returned (.int .i64 r) ∧ C w'') from fun w' hw' => (HFn0 w' ((HC.out w').1 hw').2.2.2.2.2.2.2.2.2.2).mono (fun e w'' hx => ⟨hx.1, HCin.out _ ((((HC.out w').1 hw').2.2.2.2.2.2.2.2.2.2).trans (hx.2.mono (((HC.out w').1 hw').2.2.2.2.2.2.2.2.2.2).size))⟩))
          clear hC HFn0
          go_wp2_with fail
          refine region_quietC (C := C) (by kernel_rfl) (by kernel_rfl) (HCin.out _ (Below.refl _ _).drew) ?_
          repeat (first
            | go_big_quiet_skip
            | (go_big_quiet_want; go_big_quiet_op; go_big_quiet_on)
            | (refine quiet_take (v := ?_) (by rfl) ?_ ?_
               rotate_left
               · intro w' hw'
                 obtain ⟨q0, q1, q2, q3, q4, q5, q6, q7, q8, q9, hbel⟩ := (HC.out w').1 hw'
                 go_simp
                 first
                   | done
                   | exact rfl
                   | exact HCall0.out w' hw'
               simp only [Act.put, List.setIfInBounds_toArray, List.set_cons_zero, List.set_cons_succ]))
          refine wpQuiet_nil ?_
          intro wq hwq
          obtain ⟨q0, q1, q2, q3, q4, q5, q6, q7, q8, q9, kd⟩ := (HC.out wq).1 hwq
          clear hwq HCall0 HC HCin
          go_wp2
          go_ret
          exact ⟨ret_bool' HBAD.out.symm, ks.trans (kd.mono ks.size)⟩
    · have hin : i = M.tn := by omega
      have HIN := Lib.hid hin
      have hlt2 : ¬ (i : Int) < (M.tn : Int) := by omega
      clear hin
      go_wp2
      go_ret
      exact ⟨ret_bool' (by rw [← HIN.out, hok.out]), kw⟩

end Go.Proofs.YtngbcpmhejeheaaGreatDoor

/-
  The program's generic list that is told what is less (chapter 2), at slots: made from a list; is it in order?
-/
namespace Go.Proofs.YtngbcpmhejeheaaGreatDoor
open Go.RowKit Go.Joins
set_option linter.unusedVariables false
set_option linter.unusedSimpArgs false

/-- a heap made from a list -/
def NewHeap (n : Nat) (f : Slots) (w : World) (e : Ending) (w' : World) : Prop := ∃ v, e = .returned (heapV v) ∧ OwnRow w' w.heap.size v n f ∧ Below w.heap.size w w'

set_option maxRecDepth 100000 in
set_option maxHeartbeats 1000000 in
theorem heapFrom_any {v : Value} {n : Nat} {f : Slots} {w : World} (hn : n ≤ 1048576) (h : RowAt w v n f) :
    Calls Tryz.prog 144 #[v, dueV] w (NewHeap n f w) := by
  have k0 := (Below.refl w.heap.size w).alloc (Nat.le_refl _) (.cells #[.slice none 0 0, .nilFunc] 188)
  have hsz : (w.alloc (.cells #[.slice none 0 0, .nilFunc] 188)).heap.size = w.heap.size + 1 := by simp
  have HB := Lib.hid (heap_alloc_new w (.cells #[.slice none 0 0, .nilFunc] 188))
  have h0 := h.below k0
  have H := Lib.hid (h0.below ((Below.refl _ _).alloc (Nat.le_refl _) (.cells #[] 131)))
  have ho := Lib.hid (World.ownsRow_made (w.alloc (.cells #[.slice none 0 0, .nilFunc] 188)) (base := (w.alloc (.cells #[.slice none 0 0, .nilFunc] 188)).heap.size) (e := 131) (size := 2) #[] 0 (Nat.le_refl _) (Nat.zero_le _) rfl)
  have k1 := k0.alloc (Nat.le_of_lt (show w.heap.size < (w.alloc (.cells #[.slice none 0 0, .nilFunc] 188)).heap.size by simp)) (.cells #[] 131)
  have hB1 : w.heap.size + 1 ≤ ((w.alloc (.cells #[.slice none 0 0, .nilFunc] 188)).alloc (.cells #[] 131)).heap.size := by simp
  rw [hsz] at ho
  clear h h0
  go_enter Tryz.func144, Tryz.ntmps144
  go_wp2_with (first | (at_builtin; refine wpList_append_slots rfl (.tmp 5) (.tmp 6) rfl (w.heap.size + 1) (.slice (some ⟨w.heap.size + 1, 0, none⟩) 0 0) 0 f rfl ho.out v n f rfl H.out (by omega) hB1 ?_; intro v' w' hown hg _; rw [append_zero, Nat.zero_add] at hown; have hO := own_of_row hown; clear hown; obtain ⟨a', cap', hvv⟩ := hO.row.form; subst hvv; have hkk := b_grown hg (Nat.le_refl _) hB1; have hbl := (hkk.block _ (Nat.lt_succ_self _)).trans ((Below.heap_alloc _ (.cells #[] 131) w.heap.size (by omega)).trans HB.out); have c0 := cell_of_block hbl 0; have c1 := cell_of_block hbl 1; have g0 := unfrozen_of_block hbl 0; have g1 := unfrozen_of_block hbl 1))
  have hO2 := ((hO.set (Nat.lt_succ_self _) 0 (.slice a' n cap')).set (Nat.lt_succ_self _) 1 dueV).mono (Nat.le_succ _)
  exact bodyPost_ret (v := heapV (.slice a' n cap')) (by simp [results, Tryz.results144, go_sem, c0, c1]) rfl
    ⟨.slice a' n cap', rfl, hO2, ((k1.trans (hkk.mono (Nat.le_succ _))).setCell (p := ⟨w.heap.size, 0, none⟩) (Nat.le_refl _) _).setCell (p := ⟨w.heap.size, 1, none⟩) (Nat.le_refl _) _⟩

end Go.Proofs.YtngbcpmhejeheaaGreatDoor

/-
  The program's generic list that is told what is less (chapter 2), at slots: in order, raised, sunk.
-/
namespace Go.Proofs.YtngbcpmhejeheaaGreatDoor
open Go.RowKit Go.Joins
set_option linter.unusedVariables false
set_option linter.unusedSimpArgs false

set_option maxRecDepth 100000 in
set_option maxHeartbeats 1000000 in
theorem hInOrder_any {v : Value} {n : Nat} {f : Slots} {w : World} (hn : n ≤ 1048576) (h : RowAt w v n f) :
    Calls Tryz.prog 146 #[heapV v] w fun e w' => e = .returned (.bool (heapFrom f n 1)) ∧ Below w.heap.size w w' := by
  obtain ⟨a, cap, hv⟩ := h.form
  have hv2 : ∃ a cap, v = .slice a n cap := ⟨a, cap, hv⟩
  have k0 := (Below.refl w.heap.size w).alloc (Nat.le_refl _) (.cells #[v, dueV] 188)
  have H := Lib.hid (h.below k0)
  have HB := Lib.hid (heap_alloc_new w (.cells #[v, dueV] 188))
  have hs0 : w.heap.size < (w.alloc (.cells #[v, dueV] 188)).heap.size := by simp
  clear h
  subst hv
  go_enter Tryz.func146, Tryz.ntmps146
  go_wp2_with fail
  go_loopw [3] (fun i wi => ∃ k : Nat, 1 ≤ k ∧ i = .int .i64 k ∧ k ≤ n + 1 ∧ Below (w.alloc (.cells #[.slice a n cap, dueV] 188)).heap.size (w.alloc (.cells #[.slice a n cap, dueV] 188)) wi ∧ Hid (heapFrom f n 1 = heapFrom f n k)) (fun i _ => n + 1 - (intOf i).toNat)
  case atStart => exact ⟨1, Nat.le_refl _, rfl, by omega, Below.refl _ _, Lib.hid rfl⟩
  case round =>
    obtain ⟨k, hk1, rfl, hkn, hbi, hf⟩ := hrel
    have hBi := b_block hbi HB.out hs0
    have c0 := cell_of_block hBi 0
    have c1 := cell_of_block hBi 1
    have hri := H.out.below hbi
    go_wp2_with fail
    go_at_call 151; refine (hSize_any (Nat.le_succ_of_le hn) hv2).mono ?_; rintro e w1 ⟨rfl, hb⟩
    have hB1 := b_block hb hBi (Nat.lt_of_lt_of_le hs0 hbi.size)
    have d0 : w1.cell? ⟨w.heap.size, 0, none⟩ = some (.slice a n cap) := cell_of_block hB1 0
    have d1 : w1.cell? ⟨w.heap.size, 1, none⟩ = some dueV := cell_of_block hB1 1
    have hl1 := lt_of_block hB1
    have hr1 := hri.below hb
    have hb1 := hbi.trans (hb.mono hbi.size)
    clear hri hB1 hbi c0 c1 hb hBi
    by_cases hlt : k < n
    · obtain ⟨p, hp⟩ : ∃ p : Nat, p = (k - 1) / 4 := ⟨_, rfl⟩
      have e2 : ((k : Int) - 1).tdiv 4 = (p : Int) := by
        rw [hp, show ((k : Int) - 1) = ((k - 1 : Nat) : Int) by omega, Int.tdiv_eq_ediv_of_nonneg (by omega)]; omega
      have b1 : p < n := by omega
      have b2 : (k : Int) < (n : Int) := by omega
      have p1 : -9223372036854775808 < (k : Int) := by omega
      have p2 : (k : Int) < 9223372036854775808 := by omega
      by_cases hlo : (f k).2 < (f p).2
      · have hd : decide ((f k).2 < (f p).2) = true := by simpa using hlo
        have HF := Lib.hid (show heapFrom f n 1 = false by rw [hf.out, heapFrom_bad hlt (hp ▸ hlo)])
        clear hlo hf hp
        go_wp2_with fail
        go_region_held3 (fun w' => w'.cell? ⟨w.heap.size, 0, none⟩ = some (.slice a n cap) ∧ w'.cell? ⟨w.heap.size, 1, none⟩ = some dueV)
          (first | exact ⟨d0, d1⟩ | exact ⟨y0, y1⟩ | go_keep)
          (first
            | (go_at_call 153; refine (parentOf_any _ _ p1 p2).mono ?_; rw [e2]; rintro e w' ⟨rfl, rfl⟩)
            | (go_at_call 152; refine (hLess_is true hd (Nat.le_succ_of_le hn) hlt b1 hr1.drew).mono ?_; rintro e w2 ⟨rfl, hb⟩
               have y0 := (hb.cell (p := ⟨w.heap.size, 0, none⟩) hl1).trans d0; have y1 := (hb.cell (p := ⟨w.heap.size, 1, none⟩) hl1).trans d1
               have hb2 := hb1.drew.trans (hb.mono hb1.drew.size)))
        all_goals
          clear d0 d1 y0 y1 hr1 hb1 hb
          go_wp2
          go_ret
          exact ⟨ret_bool HF.out.symm, k0.trans (hb2.mono k0.size)⟩
      · have hd : decide ((f k).2 < (f p).2) = false := by simpa using hlo
        have HF := Lib.hid (hf.out.trans (heapFrom_good hlt (hp ▸ hlo)))
        clear hlo hf hp
        go_wp2_with fail
        go_region_held3 (fun w' => w'.cell? ⟨w.heap.size, 0, none⟩ = some (.slice a n cap) ∧ w'.cell? ⟨w.heap.size, 1, none⟩ = some dueV)
          (first | exact ⟨d0, d1⟩ | exact ⟨y0, y1⟩ | go_keep)
          (first
            | (go_at_call 153; refine (parentOf_any _ _ p1 p2).mono ?_; rw [e2]; rintro e w' ⟨rfl, rfl⟩)
            | (go_at_call 152; refine (hLess_is false hd (Nat.le_succ_of_le hn) hlt b1 hr1.drew).mono ?_; rintro e w2 ⟨rfl, hb⟩
               have y0 := (hb.cell (p := ⟨w.heap.size, 0, none⟩) hl1).trans d0; have y1 := (hb.cell (p := ⟨w.heap.size, 1, none⟩) hl1).trans d1
               have hb2 := hb1.drew.trans (hb.mono hb1.drew.size)))
        all_goals
          clear d0 d1 y0 y1 hr1 hb1 hb
          go_wp2
          exact ⟨⟨k + 1, by omega, by go_num, by omega, hb2, HF⟩, by simp [intOf]; omega⟩
    · have HF := Lib.hid (hf.out.trans (heapFrom_out hlt))
      clear hf
      go_wp2
      go_ret
      exact ⟨ret_bool HF.out.symm, k0.trans (hb1.mono k0.size)⟩

end Go.Proofs.YtngbcpmhejeheaaGreatDoor

/-
  The program's generic list that is told what is less (chapter 2), at slots: raised.
-/
namespace Go.Proofs.YtngbcpmhejeheaaGreatDoor
open Go.RowKit Go.Joins
set_option linter.unusedVariables false
set_option linter.unusedSimpArgs false

/-- p is k's parent -/
def Par (k p : Nat) : Prop := 0 < k ∧ k ≤ 1048576 ∧ p = (k - 1) / 4
theorem parentOf_par {k p : Nat} (h : Par k p) (w : World) : Calls Tryz.prog 153 #[.int .i64 k] w fun e w' => e = .returned (.int .i64 p) ∧ w = w' := by
  obtain ⟨h0, h1, h2⟩ := h
  have e : ((k : Int) - 1).tdiv 4 = (p : Int) := by
    rw [h2, show ((k : Int) - 1) = ((k - 1 : Nat) : Int) by omega, Int.tdiv_eq_ediv_of_nonneg (by omega)]; omega
  have := parentOf_any (k : Int) w (by omega) (by omega)
  rwa [e] at this

end Go.Proofs.YtngbcpmhejeheaaGreatDoor

/-
  The program's generic list that is told what is less (chapter 2), at slots: sunk.
-/
namespace Go.Proofs.YtngbcpmhejeheaaGreatDoor
open Go.RowKit Go.Joins
set_option linter.unusedVariables false
set_option linter.unusedSimpArgs false

end Go.Proofs.YtngbcpmhejeheaaGreatDoor
