/-
  A memory as the program works with it (chapter 5): do all parts agree; are all parts right; is it right?
-/
import Derived.Test.YtflekodaiejflaaGreatL05
import Derived.Test.YtflekodaiejflaaGreatL07
import Derived.Test.YtflekodaiejflaaGreatL04
import Derived.Deep.RegionLaw
import Derived.Test.YtflekodaiejflaaGreatL02
import Derived.Test.YtflekodaiejflaaGreatL01
namespace Go.Proofs.YtflekodaiejflaaGreat
open Go.RowKit Go.Joins
set_option linter.unusedVariables false
set_option linter.unusedSimpArgs false

/-- does a processor agree with the timers, as the program asks it? -/
def agreeX (M : Me) (k : Nat) : Bool := allB (fun i => slotOkB M k ((M.p k).f i)) (M.p k).n && ((M.p k).d == delsF M (M.p k).f (M.p k).n && allB (fun i => !ovB (M.p k).e (M.t (((M.p k).f i).1).toNat)) (M.p k).n)

set_option maxRecDepth 100000 in
set_option maxHeartbeats 8000000 in
theorem agrees_any {mb : Nat} {a b c : Int} {M : Me} {w : World} (hs : sizeM M ≤ 1048576) (h : SeenAt w mb a b c M) (hpl : ∀ i, i < M.tn → (M.t i).pl = -1 ∨ 0 ≤ (M.t i).pl ∧ (M.t i).pl < (M.pn : Int)) :
    Calls Tryz.prog 116 #[ptrV mb] w fun e w' => e = .returned (.bool (allB (agreeX M) M.pn && allB (placeOkB M) M.tn)) ∧ Below w.heap.size w w' := by
  obtain ⟨htn, hpn, hsl, hns⟩ := sizeM_le hs
  have HS := Lib.hid h
  have HNS := Lib.hid hns
  have HPLA := Lib.hid (fun (W : World) (hW : Below w.heap.size w W) => placesAgree_any hs (h.below hW) hpl)
  obtain ⟨tv, pv, hM0, hT0, hP0⟩ := h
  obtain ⟨ta, tc, htv⟩ := hT0.form
  obtain ⟨qa, qc, hpv⟩ := hP0.form
  subst htv hpv
  have lM0 := lt_of_block hM0
  have HP0 := Lib.hid hP0
  obtain ⟨n0, n1, n2, n3, n4, n5⟩ := six hM0
  clear hns hsl hM0 hP0 hT0
  go_enter Tryz.func116, Tryz.ntmps116
  go_wp2_with fail
  clear n0 n1 n2 n3 n4 n5
  go_loopw [10] (fun i wr => ∃ q : Nat, q ≤ M.pn ∧ i = .int .i64 q ∧ Hid (allB (agreeX M) q = true) ∧ Below w.heap.size w wr) (fun i _ => M.pn - (intOf i).toNat)
  case atStart => exact ⟨0, Nat.zero_le _, rfl, Lib.hid rfl, Below.refl _ _⟩
  case round =>
    obtain ⟨k, hk, rfl, hok, kw⟩ := hrel
    by_cases hlt : k < M.pn
    · rcases HP0.out with ⟨h0, _⟩ | ⟨pb, po, pcap, ev, hpb, hpc⟩
      · omega
      injection ev with ev1 ev2 ev3
      subst ev1 ev3
      have i1 : (k : Int) < (M.pn : Int) := by omega
      have i0 : (0 : Int) ≤ (k : Int) := by omega
      have hnk := HNS.out k hlt
      obtain ⟨xa, xc, p0, p1, p2, p3, hrow⟩ := hpc k hlt
      replace p0 := (kw.cell (p := ⟨pb, po + k * 4, none⟩) hpb).trans p0
      replace p1 := (kw.cell (p := ⟨pb, po + k * 4 + 1, none⟩) hpb).trans p1
      replace p2 := (kw.cell (p := ⟨pb, po + k * 4 + 2, none⟩) hpb).trans p2
      replace p3 := (kw.cell (p := ⟨pb, po + k * 4 + 3, none⟩) hpb).trans p3
      have ks := kw.alloc kw.size (pxB (.slice xa (M.p k).n xc) (M.p k).l (M.p k).e (M.p k).d)
      have hX := heap_alloc_new wr (pxB (.slice xa (M.p k).n xc) (M.p k).l (M.p k).e (M.p k).d)
      have lX := lt_of_block hX
      obtain ⟨x0, x1, x2, x3, _, _, _, _⟩ := four hX
      clear hX hpc
      cases h1 : allB (fun i => slotOkB M k ((M.p k).f i)) (M.p k).n
      · have HBAD := Lib.hid (show allB (agreeX M) M.pn = false from allB_bad (i := k) (by unfold agreeX; rw [h1]; rfl) _ hlt)
        have H1 := Lib.hid h1
        clear h1
        obtain ⟨C, hC⟩ : ∃ C : World → Prop, ∀ w', C w' ↔ (w'.cell? ⟨wr.heap.size, 0, none⟩ = some (.int .i64 (M.p k).l) ∧ w'.cell? ⟨wr.heap.size, 1, none⟩ = some (.slice xa (M.p k).n xc) ∧ w'.cell? ⟨wr.heap.size, 2, none⟩ = some (.int .i64 (M.p k).e) ∧ w'.cell? ⟨wr.heap.size, 3, none⟩ = some (.int .i64 (M.p k).d) ∧ Below ((wr.alloc (pxB (.slice xa (M.p k).n xc) (M.p k).l (M.p k).e (M.p k).d))).heap.size ((wr.alloc (pxB (.slice xa (M.p k).n xc) (M.p k).l (M.p k).e (M.p k).d))) w') := ⟨_, fun _ => Iff.rfl⟩
        have HCin := Lib.hid (show ∀ w', Below ((wr.alloc (pxB (.slice xa (M.p k).n xc) (M.p k).l (M.p k).e (M.p k).d))).heap.size ((wr.alloc (pxB (.slice xa (M.p k).n xc) (M.p k).l (M.p k).e (M.p k).d))) w' → C w' from fun w' kd => (hC w').2 ⟨(kd.cell (p := ⟨wr.heap.size, 0, none⟩) lX).trans x0, (kd.cell (p := ⟨wr.heap.size, 1, none⟩) lX).trans x1, (kd.cell (p := ⟨wr.heap.size, 2, none⟩) lX).trans x2, (kd.cell (p := ⟨wr.heap.size, 3, none⟩) lX).trans x3, kd⟩)
        have HC := Lib.hid hC
        have HFn0 : ∀ W : World, Below ((wr.alloc (pxB (.slice xa (M.p k).n xc) (M.p k).l (M.p k).e (M.p k).d))).heap.size ((wr.alloc (pxB (.slice xa (M.p k).n xc) (M.p k).l (M.p k).e (M.p k).d))) W → Calls Tryz.prog 128 #[ptrV mb, .int .i64 (k : Int), .slice xa (M.p k).n xc] W (fun e w'' => e = .returned (.bool false) ∧ Below W.heap.size W w'') := fun W hW => by have := slotsAgree_any htn (HS.out.below (ks.trans (hW.mono ks.size))) (k : Int) hnk (hrow.below (ks.trans (hW.mono ks.size))); rw [H1.out] at this; exact this
        have HCall0 := Lib.hid (show ∀ w', C w' → Calls Tryz.prog 128 #[ptrV mb, .int .i64 (k : Int), .slice xa (M.p k).n xc] w' (fun e w'' => e = .returned (.bool false) ∧ C w'') from fun w' hw' => (HFn0 w' ((HC.out w').1 hw').2.2.2.2).mono (fun e w'' hx => ⟨hx.1, HCin.out _ ((((HC.out w').1 hw').2.2.2.2).trans (hx.2.mono (((HC.out w').1 hw').2.2.2.2).size))⟩))
        clear hC HFn0
        go_wp2_with fail
        refine region_quietC (C := C) (by kernel_rfl) (by kernel_rfl) (HCin.out _ (Below.refl _ _).drew) ?_
        repeat (first
          | go_big_quiet_skip
          | (go_big_quiet_want; go_big_quiet_op; go_big_quiet_on)
          | (refine quiet_take (v := ?_) (by rfl) ?_ ?_
             rotate_left
             · intro w' hw'
               obtain ⟨q0, q1, q2, q3, hbel⟩ := (HC.out w').1 hw'
               go_simp
               first
                 | done
                 | exact rfl
                 | exact HCall0.out w' hw'
             simp only [Act.put, List.setIfInBounds_toArray, List.set_cons_zero, List.set_cons_succ]))
        refine wpQuiet_nil ?_
        intro wq hwq
        obtain ⟨q0, q1, q2, q3, kd⟩ := (HC.out wq).1 hwq
        clear hwq HCall0 HC HCin
        go_wp2
        go_ret
        exact ⟨ret_bool' (by rw [HBAD.out]; rfl), ks.trans (kd.mono ks.size)⟩
      have H1 := Lib.hid h1
      have HIDS := Lib.hid (show ∀ i, i < (M.p k).n → hasT M ((M.p k).f i).1 = true from fun i hi => by have := allB_at h1 i hi; simp only [slotOkB, Bool.and_eq_true] at this; exact this.1)
      obtain ⟨y, hy⟩ : ∃ y : Int, delsF M (M.p k).f (M.p k).n = y := ⟨_, rfl⟩
      have HY := Lib.hid hy
      clear hy h1
      cases h2 : (M.p k).d == y
      · have hd : ((M.p k).d != y) = true := by rw [bne, h2]; rfl
        have HBAD := Lib.hid (show allB (agreeX M) M.pn = false from allB_bad (i := k) (by unfold agreeX; rw [HY.out, h2, Bool.false_and, Bool.and_false]) _ hlt)
        obtain ⟨C, hC⟩ : ∃ C : World → Prop, ∀ w', C w' ↔ (w'.cell? ⟨wr.heap.size, 0, none⟩ = some (.int .i64 (M.p k).l) ∧ w'.cell? ⟨wr.heap.size, 1, none⟩ = some (.slice xa (M.p k).n xc) ∧ w'.cell? ⟨wr.heap.size, 2, none⟩ = some (.int .i64 (M.p k).e) ∧ w'.cell? ⟨wr.heap.size, 3, none⟩ = some (.int .i64 (M.p k).d) ∧ Below ((wr.alloc (pxB (.slice xa (M.p k).n xc) (M.p k).l (M.p k).e (M.p k).d))).heap.size ((wr.alloc (pxB (.slice xa (M.p k).n xc) (M.p k).l (M.p k).e (M.p k).d))) w') := ⟨_, fun _ => Iff.rfl⟩
        have HCin := Lib.hid (show ∀ w', Below ((wr.alloc (pxB (.slice xa (M.p k).n xc) (M.p k).l (M.p k).e (M.p k).d))).heap.size ((wr.alloc (pxB (.slice xa (M.p k).n xc) (M.p k).l (M.p k).e (M.p k).d))) w' → C w' from fun w' kd => (hC w').2 ⟨(kd.cell (p := ⟨wr.heap.size, 0, none⟩) lX).trans x0, (kd.cell (p := ⟨wr.heap.size, 1, none⟩) lX).trans x1, (kd.cell (p := ⟨wr.heap.size, 2, none⟩) lX).trans x2, (kd.cell (p := ⟨wr.heap.size, 3, none⟩) lX).trans x3, kd⟩)
        have HC := Lib.hid hC
        have HFn0 : ∀ W : World, Below ((wr.alloc (pxB (.slice xa (M.p k).n xc) (M.p k).l (M.p k).e (M.p k).d))).heap.size ((wr.alloc (pxB (.slice xa (M.p k).n xc) (M.p k).l (M.p k).e (M.p k).d))) W → Calls Tryz.prog 128 #[ptrV mb, .int .i64 (k : Int), .slice xa (M.p k).n xc] W (fun e w'' => e = .returned (.bool true) ∧ Below W.heap.size W w'') := fun W hW => by have := slotsAgree_any htn (HS.out.below (ks.trans (hW.mono ks.size))) (k : Int) hnk (hrow.below (ks.trans (hW.mono ks.size))); rw [H1.out] at this; exact this
        have HCall0 := Lib.hid (show ∀ w', C w' → Calls Tryz.prog 128 #[ptrV mb, .int .i64 (k : Int), .slice xa (M.p k).n xc] w' (fun e w'' => e = .returned (.bool true) ∧ C w'') from fun w' hw' => (HFn0 w' ((HC.out w').1 hw').2.2.2.2).mono (fun e w'' hx => ⟨hx.1, HCin.out _ ((((HC.out w').1 hw').2.2.2.2).trans (hx.2.mono (((HC.out w').1 hw').2.2.2.2).size))⟩))
        have HFn1 : ∀ W : World, Below ((wr.alloc (pxB (.slice xa (M.p k).n xc) (M.p k).l (M.p k).e (M.p k).d))).heap.size ((wr.alloc (pxB (.slice xa (M.p k).n xc) (M.p k).l (M.p k).e (M.p k).d))) W → Calls Tryz.prog 129 #[ptrV mb, .slice xa (M.p k).n xc] W (fun e w'' => e = .returned (.int .i64 y) ∧ Below W.heap.size W w'') := fun W hW => by have := deletedOf_any htn (HS.out.below (ks.trans (hW.mono ks.size))) hnk (hrow.below (ks.trans (hW.mono ks.size))) HIDS.out; rw [HY.out] at this; exact this
        have HCall1 := Lib.hid (show ∀ w', C w' → Calls Tryz.prog 129 #[ptrV mb, .slice xa (M.p k).n xc] w' (fun e w'' => e = .returned (.int .i64 y) ∧ C w'') from fun w' hw' => (HFn1 w' ((HC.out w').1 hw').2.2.2.2).mono (fun e w'' hx => ⟨hx.1, HCin.out _ ((((HC.out w').1 hw').2.2.2.2).trans (hx.2.mono (((HC.out w').1 hw').2.2.2.2).size))⟩))
        clear hC HFn0 HFn1
        go_wp2_with fail
        refine region_quietC (C := C) (by kernel_rfl) (by kernel_rfl) (HCin.out _ (Below.refl _ _).drew) ?_
        repeat (first
          | go_big_quiet_skip
          | (go_big_quiet_want; go_big_quiet_op; go_big_quiet_on)
          | (refine quiet_take (v := ?_) (by rfl) ?_ ?_
             rotate_left
             · intro w' hw'
               obtain ⟨q0, q1, q2, q3, hbel⟩ := (HC.out w').1 hw'
               go_simp
               first
                 | done
                 | exact rfl
                 | exact HCall0.out w' hw'
                 | exact HCall1.out w' hw'
             simp only [Act.put, List.setIfInBounds_toArray, List.set_cons_zero, List.set_cons_succ]))
        refine wpQuiet_nil ?_
        intro wq hwq
        obtain ⟨q0, q1, q2, q3, kd⟩ := (HC.out wq).1 hwq
        clear hwq HCall0 HCall1 HC HCin
        go_wp2
        go_ret
        exact ⟨ret_bool' (by rw [HBAD.out]; rfl), ks.trans (kd.mono ks.size)⟩
      have hd : ((M.p k).d != y) = false := by rw [bne, h2]; rfl
      cases h3 : allB (fun i => !ovB (M.p k).e (M.t (((M.p k).f i).1).toNat)) (M.p k).n
      · have HBAD := Lib.hid (show allB (agreeX M) M.pn = false from allB_bad (i := k) (by unfold agreeX; rw [h3, Bool.and_false, Bool.and_false]) _ hlt)
        have H3 := Lib.hid h3
        clear h3
        obtain ⟨C, hC⟩ : ∃ C : World → Prop, ∀ w', C w' ↔ (w'.cell? ⟨wr.heap.size, 0, none⟩ = some (.int .i64 (M.p k).l) ∧ w'.cell? ⟨wr.heap.size, 1, none⟩ = some (.slice xa (M.p k).n xc) ∧ w'.cell? ⟨wr.heap.size, 2, none⟩ = some (.int .i64 (M.p k).e) ∧ w'.cell? ⟨wr.heap.size, 3, none⟩ = some (.int .i64 (M.p k).d) ∧ Below ((wr.alloc (pxB (.slice xa (M.p k).n xc) (M.p k).l (M.p k).e (M.p k).d))).heap.size ((wr.alloc (pxB (.slice xa (M.p k).n xc) (M.p k).l (M.p k).e (M.p k).d))) w') := ⟨_, fun _ => Iff.rfl⟩
        have HCin := Lib.hid (show ∀ w', Below ((wr.alloc (pxB (.slice xa (M.p k).n xc) (M.p k).l (M.p k).e (M.p k).d))).heap.size ((wr.alloc (pxB (.slice xa (M.p k).n xc) (M.p k).l (M.p k).e (M.p k).d))) w' → C w' from fun w' kd => (hC w').2 ⟨(kd.cell (p := ⟨wr.heap.size, 0, none⟩) lX).trans x0, (kd.cell (p := ⟨wr.heap.size, 1, none⟩) lX).trans x1, (kd.cell (p := ⟨wr.heap.size, 2, none⟩) lX).trans x2, (kd.cell (p := ⟨wr.heap.size, 3, none⟩) lX).trans x3, kd⟩)
        have HC := Lib.hid hC
        have HFn0 : ∀ W : World, Below ((wr.alloc (pxB (.slice xa (M.p k).n xc) (M.p k).l (M.p k).e (M.p k).d))).heap.size ((wr.alloc (pxB (.slice xa (M.p k).n xc) (M.p k).l (M.p k).e (M.p k).d))) W → Calls Tryz.prog 128 #[ptrV mb, .int .i64 (k : Int), .slice xa (M.p k).n xc] W (fun e w'' => e = .returned (.bool true) ∧ Below W.heap.size W w'') := fun W hW => by have := slotsAgree_any htn (HS.out.below (ks.trans (hW.mono ks.size))) (k : Int) hnk (hrow.below (ks.trans (hW.mono ks.size))); rw [H1.out] at this; exact this
        have HCall0 := Lib.hid (show ∀ w', C w' → Calls Tryz.prog 128 #[ptrV mb, .int .i64 (k : Int), .slice xa (M.p k).n xc] w' (fun e w'' => e = .returned (.bool true) ∧ C w'') from fun w' hw' => (HFn0 w' ((HC.out w').1 hw').2.2.2.2).mono (fun e w'' hx => ⟨hx.1, HCin.out _ ((((HC.out w').1 hw').2.2.2.2).trans (hx.2.mono (((HC.out w').1 hw').2.2.2.2).size))⟩))
        have HFn1 : ∀ W : World, Below ((wr.alloc (pxB (.slice xa (M.p k).n xc) (M.p k).l (M.p k).e (M.p k).d))).heap.size ((wr.alloc (pxB (.slice xa (M.p k).n xc) (M.p k).l (M.p k).e (M.p k).d))) W → Calls Tryz.prog 129 #[ptrV mb, .slice xa (M.p k).n xc] W (fun e w'' => e = .returned (.int .i64 y) ∧ Below W.heap.size W w'') := fun W hW => by have := deletedOf_any htn (HS.out.below (ks.trans (hW.mono ks.size))) hnk (hrow.below (ks.trans (hW.mono ks.size))) HIDS.out; rw [HY.out] at this; exact this
        have HCall1 := Lib.hid (show ∀ w', C w' → Calls Tryz.prog 129 #[ptrV mb, .slice xa (M.p k).n xc] w' (fun e w'' => e = .returned (.int .i64 y) ∧ C w'') from fun w' hw' => (HFn1 w' ((HC.out w').1 hw').2.2.2.2).mono (fun e w'' hx => ⟨hx.1, HCin.out _ ((((HC.out w').1 hw').2.2.2.2).trans (hx.2.mono (((HC.out w').1 hw').2.2.2.2).size))⟩))
        have HFn2 : ∀ W : World, Below ((wr.alloc (pxB (.slice xa (M.p k).n xc) (M.p k).l (M.p k).e (M.p k).d))).heap.size ((wr.alloc (pxB (.slice xa (M.p k).n xc) (M.p k).l (M.p k).e (M.p k).d))) W → Calls Tryz.prog 130 #[ptrV mb, pxV (.slice xa (M.p k).n xc) (M.p k).l (M.p k).e (M.p k).d] W (fun e w'' => e = .returned (.bool false) ∧ Below W.heap.size W w'') := fun W hW => by have := earliestAgrees_any htn (HS.out.below (ks.trans (hW.mono ks.size))) (M.p k).l (M.p k).e (M.p k).d hnk (hrow.below (ks.trans (hW.mono ks.size))) HIDS.out; rw [H3.out] at this; exact this
        have HCall2 := Lib.hid (show ∀ w', C w' → Calls Tryz.prog 130 #[ptrV mb, pxV (.slice xa (M.p k).n xc) (M.p k).l (M.p k).e (M.p k).d] w' (fun e w'' => e = .returned (.bool false) ∧ C w'') from fun w' hw' => (HFn2 w' ((HC.out w').1 hw').2.2.2.2).mono (fun e w'' hx => ⟨hx.1, HCin.out _ ((((HC.out w').1 hw').2.2.2.2).trans (hx.2.mono (((HC.out w').1 hw').2.2.2.2).size))⟩))
        clear hC HFn0 HFn1 HFn2
        go_wp2_with fail
        refine region_quietC (C := C) (by kernel_rfl) (by kernel_rfl) (HCin.out _ (Below.refl _ _).drew) ?_
        repeat (first
          | go_big_quiet_skip
          | (go_big_quiet_want; go_big_quiet_op; go_big_quiet_on)
          | (refine quiet_take (v := ?_) (by rfl) ?_ ?_
             rotate_left
             · intro w' hw'
               obtain ⟨q0, q1, q2, q3, hbel⟩ := (HC.out w').1 hw'
               go_simp
               first
                 | done
                 | exact rfl
                 | exact HCall0.out w' hw'
                 | exact HCall1.out w' hw'
                 | exact HCall2.out w' hw'
             simp only [Act.put, List.setIfInBounds_toArray, List.set_cons_zero, List.set_cons_succ]))
        refine wpQuiet_nil ?_
        intro wq hwq
        obtain ⟨q0, q1, q2, q3, kd⟩ := (HC.out wq).1 hwq
        clear hwq HCall0 HCall1 HCall2 HC HCin
        go_wp2
        go_ret
        exact ⟨ret_bool' (by rw [HBAD.out]; rfl), ks.trans (kd.mono ks.size)⟩
      · have HN := Lib.hid (show allB (agreeX M) (k + 1) = true by rw [allB, hok.out, Bool.true_and]; unfold agreeX; rw [H1.out, HY.out, h2, h3]; rfl)
        have H3 := Lib.hid h3
        clear h3
        obtain ⟨C, hC⟩ : ∃ C : World → Prop, ∀ w', C w' ↔ (w'.cell? ⟨wr.heap.size, 0, none⟩ = some (.int .i64 (M.p k).l) ∧ w'.cell? ⟨wr.heap.size, 1, none⟩ = some (.slice xa (M.p k).n xc) ∧ w'.cell? ⟨wr.heap.size, 2, none⟩ = some (.int .i64 (M.p k).e) ∧ w'.cell? ⟨wr.heap.size, 3, none⟩ = some (.int .i64 (M.p k).d) ∧ Below ((wr.alloc (pxB (.slice xa (M.p k).n xc) (M.p k).l (M.p k).e (M.p k).d))).heap.size ((wr.alloc (pxB (.slice xa (M.p k).n xc) (M.p k).l (M.p k).e (M.p k).d))) w') := ⟨_, fun _ => Iff.rfl⟩
        have HCin := Lib.hid (show ∀ w', Below ((wr.alloc (pxB (.slice xa (M.p k).n xc) (M.p k).l (M.p k).e (M.p k).d))).heap.size ((wr.alloc (pxB (.slice xa (M.p k).n xc) (M.p k).l (M.p k).e (M.p k).d))) w' → C w' from fun w' kd => (hC w').2 ⟨(kd.cell (p := ⟨wr.heap.size, 0, none⟩) lX).trans x0, (kd.cell (p := ⟨wr.heap.size, 1, none⟩) lX).trans x1, (kd.cell (p := ⟨wr.heap.size, 2, none⟩) lX).trans x2, (kd.cell (p := ⟨wr.heap.size, 3, none⟩) lX).trans x3, kd⟩)
        have HC := Lib.hid hC
        have HFn0 : ∀ W : World, Below ((wr.alloc (pxB (.slice xa (M.p k).n xc) (M.p k).l (M.p k).e (M.p k).d))).heap.size ((wr.alloc (pxB (.slice xa (M.p k).n xc) (M.p k).l (M.p k).e (M.p k).d))) W → Calls Tryz.prog 128 #[ptrV mb, .int .i64 (k : Int), .slice xa (M.p k).n xc] W (fun e w'' => e = .returned (.bool true) ∧ Below W.heap.size W w'') := fun W hW => by have := slotsAgree_any htn (HS.out.below (ks.trans (hW.mono ks.size))) (k : Int) hnk (hrow.below (ks.trans (hW.mono ks.size))); rw [H1.out] at this; exact this
        have HCall0 := Lib.hid (show ∀ w', C w' → Calls Tryz.prog 128 #[ptrV mb, .int .i64 (k : Int), .slice xa (M.p k).n xc] w' (fun e w'' => e = .returned (.bool true) ∧ C w'') from fun w' hw' => (HFn0 w' ((HC.out w').1 hw').2.2.2.2).mono (fun e w'' hx => ⟨hx.1, HCin.out _ ((((HC.out w').1 hw').2.2.2.2).trans (hx.2.mono (((HC.out w').1 hw').2.2.2.2).size))⟩))
        have HFn1 : ∀ W : World, Below ((wr.alloc (pxB (.slice xa (M.p k).n xc) (M.p k).l (M.p k).e (M.p k).d))).heap.size ((wr.alloc (pxB (.slice xa (M.p k).n xc) (M.p k).l (M.p k).e (M.p k).d))) W → Calls Tryz.prog 129 #[ptrV mb, .slice xa (M.p k).n xc] W (fun e w'' => e = .returned (.int .i64 y) ∧ Below W.heap.size W w'') := fun W hW => by have := deletedOf_any htn (HS.out.below (ks.trans (hW.mono ks.size))) hnk (hrow.below (ks.trans (hW.mono ks.size))) HIDS.out; rw [HY.out] at this; exact this
        have HCall1 := Lib.hid (show ∀ w', C w' → Calls Tryz.prog 129 #[ptrV mb, .slice xa (M.p k).n xc] w' (fun e w'' => e = .returned (.int .i64 y) ∧ C w'') from fun w' hw' => (HFn1 w' ((HC.out w').1 hw').2.2.2.2).mono (fun e w'' hx => ⟨hx.1, HCin.out _ ((((HC.out w').1 hw').2.2.2.2).trans (hx.2.mono (((HC.out w').1 hw').2.2.2.2).size))⟩))
        have HFn2 : ∀ W : World, Below ((wr.alloc (pxB (.slice xa (M.p k).n xc) (M.p k).l (M.p k).e (M.p k).d))).heap.size ((wr.alloc (pxB (.slice xa (M.p k).n xc) (M.p k).l (M.p k).e (M.p k).d))) W → Calls Tryz.prog 130 #[ptrV mb, pxV (.slice xa (M.p k).n xc) (M.p k).l (M.p k).e (M.p k).d] W (fun e w'' => e = .returned (.bool true) ∧ Below W.heap.size W w'') := fun W hW => by have := earliestAgrees_any htn (HS.out.below (ks.trans (hW.mono ks.size))) (M.p k).l (M.p k).e (M.p k).d hnk (hrow.below (ks.trans (hW.mono ks.size))) HIDS.out; rw [H3.out] at this; exact this
        have HCall2 := Lib.hid (show ∀ w', C w' → Calls Tryz.prog 130 #[ptrV mb, pxV (.slice xa (M.p k).n xc) (M.p k).l (M.p k).e (M.p k).d] w' (fun e w'' => e = .returned (.bool true) ∧ C w'') from fun w' hw' => (HFn2 w' ((HC.out w').1 hw').2.2.2.2).mono (fun e w'' hx => ⟨hx.1, HCin.out _ ((((HC.out w').1 hw').2.2.2.2).trans (hx.2.mono (((HC.out w').1 hw').2.2.2.2).size))⟩))
        clear hC HFn0 HFn1 HFn2
        go_wp2_with fail
        refine region_quietC (C := C) (by kernel_rfl) (by kernel_rfl) (HCin.out _ (Below.refl _ _).drew) ?_
        repeat (first
          | go_big_quiet_skip
          | (go_big_quiet_want; go_big_quiet_op; go_big_quiet_on)
          | (refine quiet_take (v := ?_) (by rfl) ?_ ?_
             rotate_left
             · intro w' hw'
               obtain ⟨q0, q1, q2, q3, hbel⟩ := (HC.out w').1 hw'
               go_simp
               first
                 | done
                 | exact rfl
                 | exact HCall0.out w' hw'
                 | exact HCall1.out w' hw'
                 | exact HCall2.out w' hw'
             simp only [Act.put, List.setIfInBounds_toArray, List.set_cons_zero, List.set_cons_succ]))
        refine wpQuiet_nil ?_
        intro wq hwq
        obtain ⟨q0, q1, q2, q3, kd⟩ := (HC.out wq).1 hwq
        clear hwq HCall0 HCall1 HCall2 HC HCin
        have kn := ks.trans (kd.mono ks.size)
        go_wp2
        exact ⟨⟨k + 1, by omega, by go_num, HN, kn⟩, by simp only [intOf]; omega⟩
    · have hkn : k = M.pn := by omega
      have HKN := Lib.hid (show allB (agreeX M) M.pn = true by rw [← hkn]; exact hok.out)
      have hlt2 : ¬ (k : Int) < (M.pn : Int) := by omega
      clear hkn
      go_wp2_with fail
      go_at_call 131; refine (HPLA.out _ kw).mono ?_; rintro x w1 ⟨rfl, hb⟩
      go_wp2
      go_ret
      exact ⟨ret_bool' (by rw [HKN.out, Bool.true_and]), kw.trans (hb.mono kw.size)⟩

/-- is the processor k right, as the program asks it? -/
def procX (a b c : Int) (M : Me) (k : Nat) : Bool := rightB a b c (M.p k).f (M.p k).n (M.p k).l (M.p k).e (M.p k).d
set_option maxRecDepth 100000 in
set_option maxHeartbeats 8000000 in
theorem partsRight_any {mb : Nat} {a b c : Int} {M : Me} {w : World} (hs : sizeM M ≤ 1048576) (h : SeenAt w mb a b c M) :
    Calls Tryz.prog 115 #[ptrV mb] w fun e w' => e = .returned (.bool (allB (fun i => timerB a b c (M.t i)) M.tn && allB (procX a b c M) M.pn)) ∧ Below w.heap.size w w' := by
  obtain ⟨htn, hpn, hsl, hns⟩ := sizeM_le hs
  have HNS := Lib.hid hns
  obtain ⟨tv, pv, hM0, hT0, hP0⟩ := h
  obtain ⟨ta, tc, htv⟩ := hT0.form
  obtain ⟨qa, qc, hpv⟩ := hP0.form
  subst htv hpv
  have lM0 := lt_of_block hM0
  have HM0 := Lib.hid hM0
  have HP0 := Lib.hid hP0
  have HT0 := Lib.hid hT0
  obtain ⟨n0, n1, n2, n3, n4, n5⟩ := six hM0
  clear hns hsl hM0 hP0 hT0
  go_enter Tryz.func115, Tryz.ntmps115
  go_wp2_with fail
  clear n0 n1 n2 n3 n4 n5
  go_loopw [12] (fun i wr => ∃ q : Nat, q ≤ M.tn ∧ i = .int .i64 q ∧ Hid (allB (fun i => timerB a b c (M.t i)) q = true) ∧ Below w.heap.size w wr) (fun i _ => M.tn - (intOf i).toNat)
  case atStart => exact ⟨0, Nat.zero_le _, rfl, Lib.hid rfl, Below.refl _ _⟩
  case round =>
    obtain ⟨i, hi, rfl, hok, kw⟩ := hrel
    by_cases hlt : i < M.tn
    · rcases HT0.out with ⟨h0, _⟩ | ⟨tb, tof, tcap, ev, htb, htc⟩
      · omega
      injection ev with ev1 ev2 ev3
      subst ev1 ev3
      have i1 : (i : Int) < (M.tn : Int) := by omega
      have i0 : (0 : Int) ≤ (i : Int) := by omega
      obtain ⟨t0, t1, t2, t3, t4, t5, t6, t7⟩ := cells8 (w := wr) (b := tb) (o := tof + i * 8) (t := M.t i) (fun q hq => (kw.cell (p := ⟨tb, tof + i * 8 + q, none⟩) htb).trans (htc i hlt q hq))
      have ks := kw.alloc kw.size (.cells (tmCells (M.t i)) 90)
      have hSv := heap_alloc_new wr (.cells (tmCells (M.t i)) 90)
      have lS := lt_of_block hSv
      have hM := b_block ks HM0.out lM0
      have lM := lt_of_block hM
      obtain ⟨m0, m1, m2, m3, m4, m5⟩ := six hM
      obtain ⟨z0, z1, z2, z3, z4, z5, z6, z7⟩ := tm_cells hSv
      clear hSv hM htc
      cases h1 : timerB a b c (M.t i)
      · have HBAD := Lib.hid (show allB (fun i => timerB a b c (M.t i)) M.tn = false from allB_bad (i := i) h1 _ hlt)
        have H1 := Lib.hid h1
        clear h1
        obtain ⟨C, hC⟩ : ∃ C : World → Prop, ∀ w', C w' ↔ (w'.cell? ⟨mb, 0, none⟩ = some (.int .i64 a) ∧ w'.cell? ⟨mb, 1, none⟩ = some (.int .i64 b) ∧ w'.cell? ⟨mb, 2, none⟩ = some (.int .i64 c) ∧ w'.cell? ⟨wr.heap.size, 0, none⟩ = some (.int .i64 (M.t i).st) ∧ w'.cell? ⟨wr.heap.size, 1, none⟩ = some (.int .i64 (M.t i).wh) ∧ w'.cell? ⟨wr.heap.size, 2, none⟩ = some (.int .i64 (M.t i).nx) ∧ w'.cell? ⟨wr.heap.size, 3, none⟩ = some (.int .i64 (M.t i).pe) ∧ w'.cell? ⟨wr.heap.size, 4, none⟩ = some (.int .i64 (M.t i).pl) ∧ w'.cell? ⟨wr.heap.size, 5, none⟩ = some (.int .i64 (M.t i).ge) ∧ w'.cell? ⟨wr.heap.size, 6, none⟩ = some (.int .i64 (M.t i).ki) ∧ w'.cell? ⟨wr.heap.size, 7, none⟩ = some (.int .i64 (M.t i).ma) ∧ Below ((wr.alloc (.cells (tmCells (M.t i)) 90))).heap.size ((wr.alloc (.cells (tmCells (M.t i)) 90))) w') := ⟨_, fun _ => Iff.rfl⟩
        have HCin := Lib.hid (show ∀ w', Below ((wr.alloc (.cells (tmCells (M.t i)) 90))).heap.size ((wr.alloc (.cells (tmCells (M.t i)) 90))) w' → C w' from fun w' kd => (hC w').2 ⟨(kd.cell (p := ⟨mb, 0, none⟩) lM).trans m0, (kd.cell (p := ⟨mb, 1, none⟩) lM).trans m1, (kd.cell (p := ⟨mb, 2, none⟩) lM).trans m2, (kd.cell (p := ⟨wr.heap.size, 0, none⟩) lS).trans z0, (kd.cell (p := ⟨wr.heap.size, 1, none⟩) lS).trans z1, (kd.cell (p := ⟨wr.heap.size, 2, none⟩) lS).trans z2, (kd.cell (p := ⟨wr.heap.size, 3, none⟩) lS).trans z3, (kd.cell (p := ⟨wr.heap.size, 4, none⟩) lS).trans z4, (kd.cell (p := ⟨wr.heap.size, 5, none⟩) lS).trans z5, (kd.cell (p := ⟨wr.heap.size, 6, none⟩) lS).trans z6, (kd.cell (p := ⟨wr.heap.size, 7, none⟩) lS).trans z7, kd⟩)
        have HC := Lib.hid hC
        have HFn0 : ∀ W : World, Below ((wr.alloc (.cells (tmCells (M.t i)) 90))).heap.size ((wr.alloc (.cells (tmCells (M.t i)) 90))) W → Calls Tryz.prog 126 #[.agg #[.int .i64 a, .int .i64 b, .int .i64 c], tmV (M.t i)] W (fun e w'' => e = .returned (.bool false) ∧ Below W.heap.size W w'') := fun W hW => by have := imTimerOk_any a b c (M.t i) W; rw [H1.out] at this; exact this
        have HCall0 := Lib.hid (show ∀ w', C w' → Calls Tryz.prog 126 #[.agg #[.int .i64 a, .int .i64 b, .int .i64 c], tmV (M.t i)] w' (fun e w'' => e = .returned (.bool false) ∧ C w'') from fun w' hw' => (HFn0 w' ((HC.out w').1 hw').2.2.2.2.2.2.2.2.2.2.2).mono (fun e w'' hx => ⟨hx.1, HCin.out _ ((((HC.out w').1 hw').2.2.2.2.2.2.2.2.2.2.2).trans (hx.2.mono (((HC.out w').1 hw').2.2.2.2.2.2.2.2.2.2.2).size))⟩))
        clear hC HFn0
        go_wp2_with fail
        refine region_quietC (C := C) (by kernel_rfl) (by kernel_rfl) (HCin.out _ (Below.refl _ _).drew) ?_
        repeat (first
          | go_big_quiet_skip
          | (go_big_quiet_want; go_big_quiet_op; go_big_quiet_on)
          | (refine quiet_take (v := ?_) (by rfl) ?_ ?_
             rotate_left
             · intro w' hw'
               obtain ⟨q0, q1, q2, q3, q4, q5, q6, q7, q8, q9, q10, hbel⟩ := (HC.out w').1 hw'
               go_simp
               first
                 | done
                 | exact rfl
                 | exact HCall0.out w' hw'
             simp only [Act.put, List.setIfInBounds_toArray, List.set_cons_zero, List.set_cons_succ]))
        refine wpQuiet_nil ?_
        intro wq hwq
        obtain ⟨q0, q1, q2, q3, q4, q5, q6, q7, q8, q9, q10, kd⟩ := (HC.out wq).1 hwq
        clear hwq HCall0 HC HCin
        go_wp2
        go_ret
        exact ⟨ret_bool' (by rw [HBAD.out]; first | rfl | rw [Bool.and_false]), ks.trans (kd.mono ks.size)⟩
      · have HN := Lib.hid (show allB (fun i => timerB a b c (M.t i)) (i + 1) = true by rw [allB, hok.out, h1]; rfl)
        have H1 := Lib.hid h1
        clear h1
        obtain ⟨C, hC⟩ : ∃ C : World → Prop, ∀ w', C w' ↔ (w'.cell? ⟨mb, 0, none⟩ = some (.int .i64 a) ∧ w'.cell? ⟨mb, 1, none⟩ = some (.int .i64 b) ∧ w'.cell? ⟨mb, 2, none⟩ = some (.int .i64 c) ∧ w'.cell? ⟨wr.heap.size, 0, none⟩ = some (.int .i64 (M.t i).st) ∧ w'.cell? ⟨wr.heap.size, 1, none⟩ = some (.int .i64 (M.t i).wh) ∧ w'.cell? ⟨wr.heap.size, 2, none⟩ = some (.int .i64 (M.t i).nx) ∧ w'.cell? ⟨wr.heap.size, 3, none⟩ = some (.int .i64 (M.t i).pe) ∧ w'.cell? ⟨wr.heap.size, 4, none⟩ = some (.int .i64 (M.t i).pl) ∧ w'.cell? ⟨wr.heap.size, 5, none⟩ = some (.int .i64 (M.t i).ge) ∧ w'.cell? ⟨wr.heap.size, 6, none⟩ = some (.int .i64 (M.t i).ki) ∧ w'.cell? ⟨wr.heap.size, 7, none⟩ = some (.int .i64 (M.t i).ma) ∧ Below ((wr.alloc (.cells (tmCells (M.t i)) 90))).heap.size ((wr.alloc (.cells (tmCells (M.t i)) 90))) w') := ⟨_, fun _ => Iff.rfl⟩
        have HCin := Lib.hid (show ∀ w', Below ((wr.alloc (.cells (tmCells (M.t i)) 90))).heap.size ((wr.alloc (.cells (tmCells (M.t i)) 90))) w' → C w' from fun w' kd => (hC w').2 ⟨(kd.cell (p := ⟨mb, 0, none⟩) lM).trans m0, (kd.cell (p := ⟨mb, 1, none⟩) lM).trans m1, (kd.cell (p := ⟨mb, 2, none⟩) lM).trans m2, (kd.cell (p := ⟨wr.heap.size, 0, none⟩) lS).trans z0, (kd.cell (p := ⟨wr.heap.size, 1, none⟩) lS).trans z1, (kd.cell (p := ⟨wr.heap.size, 2, none⟩) lS).trans z2, (kd.cell (p := ⟨wr.heap.size, 3, none⟩) lS).trans z3, (kd.cell (p := ⟨wr.heap.size, 4, none⟩) lS).trans z4, (kd.cell (p := ⟨wr.heap.size, 5, none⟩) lS).trans z5, (kd.cell (p := ⟨wr.heap.size, 6, none⟩) lS).trans z6, (kd.cell (p := ⟨wr.heap.size, 7, none⟩) lS).trans z7, kd⟩)
        have HC := Lib.hid hC
        have HFn0 : ∀ W : World, Below ((wr.alloc (.cells (tmCells (M.t i)) 90))).heap.size ((wr.alloc (.cells (tmCells (M.t i)) 90))) W → Calls Tryz.prog 126 #[.agg #[.int .i64 a, .int .i64 b, .int .i64 c], tmV (M.t i)] W (fun e w'' => e = .returned (.bool true) ∧ Below W.heap.size W w'') := fun W hW => by have := imTimerOk_any a b c (M.t i) W; rw [H1.out] at this; exact this
        have HCall0 := Lib.hid (show ∀ w', C w' → Calls Tryz.prog 126 #[.agg #[.int .i64 a, .int .i64 b, .int .i64 c], tmV (M.t i)] w' (fun e w'' => e = .returned (.bool true) ∧ C w'') from fun w' hw' => (HFn0 w' ((HC.out w').1 hw').2.2.2.2.2.2.2.2.2.2.2).mono (fun e w'' hx => ⟨hx.1, HCin.out _ ((((HC.out w').1 hw').2.2.2.2.2.2.2.2.2.2.2).trans (hx.2.mono (((HC.out w').1 hw').2.2.2.2.2.2.2.2.2.2.2).size))⟩))
        clear hC HFn0
        go_wp2_with fail
        refine region_quietC (C := C) (by kernel_rfl) (by kernel_rfl) (HCin.out _ (Below.refl _ _).drew) ?_
        repeat (first
          | go_big_quiet_skip
          | (go_big_quiet_want; go_big_quiet_op; go_big_quiet_on)
          | (refine quiet_take (v := ?_) (by rfl) ?_ ?_
             rotate_left
             · intro w' hw'
               obtain ⟨q0, q1, q2, q3, q4, q5, q6, q7, q8, q9, q10, hbel⟩ := (HC.out w').1 hw'
               go_simp
               first
                 | done
                 | exact rfl
                 | exact HCall0.out w' hw'
             simp only [Act.put, List.setIfInBounds_toArray, List.set_cons_zero, List.set_cons_succ]))
        refine wpQuiet_nil ?_
        intro wq hwq
        obtain ⟨q0, q1, q2, q3, q4, q5, q6, q7, q8, q9, q10, kd⟩ := (HC.out wq).1 hwq
        clear hwq HCall0 HC HCin
        have kn := ks.trans (kd.mono ks.size)
        go_wp2
        exact ⟨⟨i + 1, by omega, by go_num, HN, kn⟩, by simp only [intOf]; omega⟩
    · have hin : i = M.tn := by omega
      have HTR := Lib.hid (show allB (fun i => timerB a b c (M.t i)) M.tn = true by rw [← hin]; exact hok.out)
      have hlt2 : ¬ (i : Int) < (M.tn : Int) := by omega
      have hM := b_block kw HM0.out lM0
      have lM1 := lt_of_block hM
      have HM1 := Lib.hid hM
      obtain ⟨n0, n1, n2, n3, n4, n5⟩ := six hM
      have HP1 := Lib.hid (HP0.out.below kw)
      have KW := Lib.hid kw
      clear hin hok hlt hM
      generalize wr = W1 at KW HM1 HP1 lM1 n0 n1 n2 n3 n4 n5 kw ⊢
      go_wp2_with fail
      clear n0 n1 n2 n3 n4 n5 kw
      go_loopw [29] (fun i wr => ∃ q : Nat, q ≤ M.pn ∧ i = .int .i64 q ∧ Hid (allB (procX a b c M) q = true) ∧ Below W1.heap.size W1 wr) (fun i _ => M.pn - (intOf i).toNat)
      case atStart => exact ⟨0, Nat.zero_le _, rfl, Lib.hid rfl, Below.refl _ _⟩
      case round =>
        obtain ⟨k, hk, rfl, hok, kw⟩ := hrel
        by_cases hlt : k < M.pn
        · rcases HP1.out with ⟨h0, _⟩ | ⟨pb, po, pcap, ev, hpb, hpc⟩
          · omega
          injection ev with ev1 ev2 ev3
          subst ev1 ev3
          have i1 : (k : Int) < (M.pn : Int) := by omega
          have i0 : (0 : Int) ≤ (k : Int) := by omega
          have hnk := HNS.out k hlt
          obtain ⟨xa, xc, p0, p1, p2, p3, hrow⟩ := hpc k hlt
          replace p0 := (kw.cell (p := ⟨pb, po + k * 4, none⟩) hpb).trans p0
          replace p1 := (kw.cell (p := ⟨pb, po + k * 4 + 1, none⟩) hpb).trans p1
          replace p2 := (kw.cell (p := ⟨pb, po + k * 4 + 2, none⟩) hpb).trans p2
          replace p3 := (kw.cell (p := ⟨pb, po + k * 4 + 3, none⟩) hpb).trans p3
          have ks := kw.alloc kw.size (pxB (.slice xa (M.p k).n xc) (M.p k).l (M.p k).e (M.p k).d)
          have hX := heap_alloc_new wr (pxB (.slice xa (M.p k).n xc) (M.p k).l (M.p k).e (M.p k).d)
          have lX := lt_of_block hX
          obtain ⟨x0, x1, x2, x3, _, _, _, _⟩ := four hX
          have hM := b_block ks HM1.out lM1
          have lM := lt_of_block hM
          obtain ⟨m0, m1, m2, m3, m4, m5⟩ := six hM
          clear hX hpc hM
          cases h1 : procX a b c M k
          · have HBAD := Lib.hid (show allB (procX a b c M) M.pn = false from allB_bad (i := k) h1 _ hlt)
            have H1 := Lib.hid (show rightB a b c (M.p k).f (M.p k).n (M.p k).l (M.p k).e (M.p k).d = false from h1)
            clear h1
            obtain ⟨C, hC⟩ : ∃ C : World → Prop, ∀ w', C w' ↔ (w'.cell? ⟨mb, 0, none⟩ = some (.int .i64 a) ∧ w'.cell? ⟨mb, 1, none⟩ = some (.int .i64 b) ∧ w'.cell? ⟨mb, 2, none⟩ = some (.int .i64 c) ∧ w'.cell? ⟨wr.heap.size, 0, none⟩ = some (.int .i64 (M.p k).l) ∧ w'.cell? ⟨wr.heap.size, 1, none⟩ = some (.slice xa (M.p k).n xc) ∧ w'.cell? ⟨wr.heap.size, 2, none⟩ = some (.int .i64 (M.p k).e) ∧ w'.cell? ⟨wr.heap.size, 3, none⟩ = some (.int .i64 (M.p k).d) ∧ Below ((wr.alloc (pxB (.slice xa (M.p k).n xc) (M.p k).l (M.p k).e (M.p k).d))).heap.size ((wr.alloc (pxB (.slice xa (M.p k).n xc) (M.p k).l (M.p k).e (M.p k).d))) w') := ⟨_, fun _ => Iff.rfl⟩
            have HCin := Lib.hid (show ∀ w', Below ((wr.alloc (pxB (.slice xa (M.p k).n xc) (M.p k).l (M.p k).e (M.p k).d))).heap.size ((wr.alloc (pxB (.slice xa (M.p k).n xc) (M.p k).l (M.p k).e (M.p k).d))) w' → C w' from fun w' kd => (hC w').2 ⟨(kd.cell (p := ⟨mb, 0, none⟩) lM).trans m0, (kd.cell (p := ⟨mb, 1, none⟩) lM).trans m1, (kd.cell (p := ⟨mb, 2, none⟩) lM).trans m2, (kd.cell (p := ⟨wr.heap.size, 0, none⟩) lX).trans x0, (kd.cell (p := ⟨wr.heap.size, 1, none⟩) lX).trans x1, (kd.cell (p := ⟨wr.heap.size, 2, none⟩) lX).trans x2, (kd.cell (p := ⟨wr.heap.size, 3, none⟩) lX).trans x3, kd⟩)
            have HC := Lib.hid hC
            have HFn0 : ∀ W : World, Below ((wr.alloc (pxB (.slice xa (M.p k).n xc) (M.p k).l (M.p k).e (M.p k).d))).heap.size ((wr.alloc (pxB (.slice xa (M.p k).n xc) (M.p k).l (M.p k).e (M.p k).d))) W → Calls Tryz.prog 127 #[pxV (.slice xa (M.p k).n xc) (M.p k).l (M.p k).e (M.p k).d, .agg #[.int .i64 a, .int .i64 b, .int .i64 c]] W (fun e w'' => e = .returned (.bool false) ∧ Below W.heap.size W w'') := fun W hW => by have := rightIn_any a b c (M.p k).l (M.p k).e (M.p k).d hnk (hrow.below (ks.trans (hW.mono ks.size))); rw [H1.out] at this; exact this
            have HCall0 := Lib.hid (show ∀ w', C w' → Calls Tryz.prog 127 #[pxV (.slice xa (M.p k).n xc) (M.p k).l (M.p k).e (M.p k).d, .agg #[.int .i64 a, .int .i64 b, .int .i64 c]] w' (fun e w'' => e = .returned (.bool false) ∧ C w'') from fun w' hw' => (HFn0 w' ((HC.out w').1 hw').2.2.2.2.2.2.2).mono (fun e w'' hx => ⟨hx.1, HCin.out _ ((((HC.out w').1 hw').2.2.2.2.2.2.2).trans (hx.2.mono (((HC.out w').1 hw').2.2.2.2.2.2.2).size))⟩))
            clear hC HFn0
            go_wp2_with fail
            refine region_quietC (C := C) (by kernel_rfl) (by kernel_rfl) (HCin.out _ (Below.refl _ _).drew) ?_
            repeat (first
              | go_big_quiet_skip
              | (go_big_quiet_want; go_big_quiet_op; go_big_quiet_on)
              | (refine quiet_take (v := ?_) (by rfl) ?_ ?_
                 rotate_left
                 · intro w' hw'
                   obtain ⟨q0, q1, q2, q3, q4, q5, q6, hbel⟩ := (HC.out w').1 hw'
                   go_simp
                   first
                     | done
                     | exact rfl
                     | exact HCall0.out w' hw'
                 simp only [Act.put, List.setIfInBounds_toArray, List.set_cons_zero, List.set_cons_succ]))
            refine wpQuiet_nil ?_
            intro wq hwq
            obtain ⟨q0, q1, q2, q3, q4, q5, q6, kd⟩ := (HC.out wq).1 hwq
            clear hwq HCall0 HC HCin
            have kn := ks.trans (kd.mono ks.size)
            go_wp2
            go_ret
            exact ⟨ret_bool' (by rw [HBAD.out, Bool.and_false]), KW.out.trans (kn.mono KW.out.size)⟩
          · have HN := Lib.hid (show allB (procX a b c M) (k + 1) = true by rw [allB, hok.out, h1]; rfl)
            have H1 := Lib.hid (show rightB a b c (M.p k).f (M.p k).n (M.p k).l (M.p k).e (M.p k).d = true from h1)
            clear h1
            obtain ⟨C, hC⟩ : ∃ C : World → Prop, ∀ w', C w' ↔ (w'.cell? ⟨mb, 0, none⟩ = some (.int .i64 a) ∧ w'.cell? ⟨mb, 1, none⟩ = some (.int .i64 b) ∧ w'.cell? ⟨mb, 2, none⟩ = some (.int .i64 c) ∧ w'.cell? ⟨wr.heap.size, 0, none⟩ = some (.int .i64 (M.p k).l) ∧ w'.cell? ⟨wr.heap.size, 1, none⟩ = some (.slice xa (M.p k).n xc) ∧ w'.cell? ⟨wr.heap.size, 2, none⟩ = some (.int .i64 (M.p k).e) ∧ w'.cell? ⟨wr.heap.size, 3, none⟩ = some (.int .i64 (M.p k).d) ∧ Below ((wr.alloc (pxB (.slice xa (M.p k).n xc) (M.p k).l (M.p k).e (M.p k).d))).heap.size ((wr.alloc (pxB (.slice xa (M.p k).n xc) (M.p k).l (M.p k).e (M.p k).d))) w') := ⟨_, fun _ => Iff.rfl⟩
            have HCin := Lib.hid (show ∀ w', Below ((wr.alloc (pxB (.slice xa (M.p k).n xc) (M.p k).l (M.p k).e (M.p k).d))).heap.size ((wr.alloc (pxB (.slice xa (M.p k).n xc) (M.p k).l (M.p k).e (M.p k).d))) w' → C w' from fun w' kd => (hC w').2 ⟨(kd.cell (p := ⟨mb, 0, none⟩) lM).trans m0, (kd.cell (p := ⟨mb, 1, none⟩) lM).trans m1, (kd.cell (p := ⟨mb, 2, none⟩) lM).trans m2, (kd.cell (p := ⟨wr.heap.size, 0, none⟩) lX).trans x0, (kd.cell (p := ⟨wr.heap.size, 1, none⟩) lX).trans x1, (kd.cell (p := ⟨wr.heap.size, 2, none⟩) lX).trans x2, (kd.cell (p := ⟨wr.heap.size, 3, none⟩) lX).trans x3, kd⟩)
            have HC := Lib.hid hC
            have HFn0 : ∀ W : World, Below ((wr.alloc (pxB (.slice xa (M.p k).n xc) (M.p k).l (M.p k).e (M.p k).d))).heap.size ((wr.alloc (pxB (.slice xa (M.p k).n xc) (M.p k).l (M.p k).e (M.p k).d))) W → Calls Tryz.prog 127 #[pxV (.slice xa (M.p k).n xc) (M.p k).l (M.p k).e (M.p k).d, .agg #[.int .i64 a, .int .i64 b, .int .i64 c]] W (fun e w'' => e = .returned (.bool true) ∧ Below W.heap.size W w'') := fun W hW => by have := rightIn_any a b c (M.p k).l (M.p k).e (M.p k).d hnk (hrow.below (ks.trans (hW.mono ks.size))); rw [H1.out] at this; exact this
            have HCall0 := Lib.hid (show ∀ w', C w' → Calls Tryz.prog 127 #[pxV (.slice xa (M.p k).n xc) (M.p k).l (M.p k).e (M.p k).d, .agg #[.int .i64 a, .int .i64 b, .int .i64 c]] w' (fun e w'' => e = .returned (.bool true) ∧ C w'') from fun w' hw' => (HFn0 w' ((HC.out w').1 hw').2.2.2.2.2.2.2).mono (fun e w'' hx => ⟨hx.1, HCin.out _ ((((HC.out w').1 hw').2.2.2.2.2.2.2).trans (hx.2.mono (((HC.out w').1 hw').2.2.2.2.2.2.2).size))⟩))
            clear hC HFn0
            go_wp2_with fail
            refine region_quietC (C := C) (by kernel_rfl) (by kernel_rfl) (HCin.out _ (Below.refl _ _).drew) ?_
            repeat (first
              | go_big_quiet_skip
              | (go_big_quiet_want; go_big_quiet_op; go_big_quiet_on)
              | (refine quiet_take (v := ?_) (by rfl) ?_ ?_
                 rotate_left
                 · intro w' hw'
                   obtain ⟨q0, q1, q2, q3, q4, q5, q6, hbel⟩ := (HC.out w').1 hw'
                   go_simp
                   first
                     | done
                     | exact rfl
                     | exact HCall0.out w' hw'
                 simp only [Act.put, List.setIfInBounds_toArray, List.set_cons_zero, List.set_cons_succ]))
            refine wpQuiet_nil ?_
            intro wq hwq
            obtain ⟨q0, q1, q2, q3, q4, q5, q6, kd⟩ := (HC.out wq).1 hwq
            clear hwq HCall0 HC HCin
            have kn := ks.trans (kd.mono ks.size)
            go_wp2
            exact ⟨⟨k + 1, by omega, by go_num, HN, kn⟩, by simp only [intOf]; omega⟩
        · have hkn : k = M.pn := by omega
          have HKN := Lib.hid (show allB (procX a b c M) M.pn = true by rw [← hkn]; exact hok.out)
          have hlt2 : ¬ (k : Int) < (M.pn : Int) := by omega
          clear hkn
          go_wp2
          go_ret
          exact ⟨ret_bool' (by rw [HKN.out, HTR.out]; rfl), KW.out.trans (kw.mono KW.out.size)⟩

/-- the sizes -/
def sizesX (a b c : Int) (M : Me) : Bool := planB a b c && (inB M.c 0 999999999 && (decide ((M.tn : Int) ≤ c) && (M.pn : Int) == a))
set_option maxRecDepth 100000 in
set_option maxHeartbeats 8000000 in
theorem sizesRight_any {mb : Nat} {a b c : Int} {M : Me} {w : World} (hs : sizeM M ≤ 1048576) (h : SeenAt w mb a b c M) :
    Calls Tryz.prog 114 #[ptrV mb] w fun e w' => e = .returned (.bool (sizesX a b c M)) ∧ Below w.heap.size w w' := by
  obtain ⟨htn, hpn, hsl, hns⟩ := sizeM_le hs
  obtain ⟨tv, pv, hM0, hT0, hP0⟩ := h
  obtain ⟨ta, tc, htv⟩ := hT0.form
  obtain ⟨qa, qc, hpv⟩ := hP0.form
  subst htv hpv
  have lM := lt_of_block hM0
  obtain ⟨m0, m1, m2, m3, m4, m5⟩ := six hM0
  clear hns hsl hM0 hP0 hT0
  cases hp : planB a b c
  · rw [show sizesX a b c M = false by unfold sizesX; rw [hp]; rfl]
    have HP := Lib.hid hp
    clear hp
    go_enter Tryz.func114, Tryz.ntmps114
    obtain ⟨C, hC⟩ : ∃ C : World → Prop, ∀ w', C w' ↔ (w'.cell? ⟨mb, 0, none⟩ = some (.int .i64 a) ∧ w'.cell? ⟨mb, 1, none⟩ = some (.int .i64 b) ∧ w'.cell? ⟨mb, 2, none⟩ = some (.int .i64 c) ∧ w'.cell? ⟨mb, 3, none⟩ = some (.int .i64 M.c) ∧ w'.cell? ⟨mb, 4, none⟩ = some (.slice ta M.tn tc) ∧ w'.cell? ⟨mb, 5, none⟩ = some (.slice qa M.pn qc) ∧ Below (w).heap.size (w) w') := ⟨_, fun _ => Iff.rfl⟩
    have HCin := Lib.hid (show ∀ w', Below (w).heap.size (w) w' → C w' from fun w' kd => (hC w').2 ⟨(kd.cell (p := ⟨mb, 0, none⟩) lM).trans m0, (kd.cell (p := ⟨mb, 1, none⟩) lM).trans m1, (kd.cell (p := ⟨mb, 2, none⟩) lM).trans m2, (kd.cell (p := ⟨mb, 3, none⟩) lM).trans m3, (kd.cell (p := ⟨mb, 4, none⟩) lM).trans m4, (kd.cell (p := ⟨mb, 5, none⟩) lM).trans m5, kd⟩)
    have HC := Lib.hid hC
    have HFn0 : ∀ W : World, Below (w).heap.size (w) W → Calls Tryz.prog 117 #[.agg #[.int .i64 a, .int .i64 b, .int .i64 c]] W (fun e w'' => e = .returned (.bool false) ∧ Below W.heap.size W w'') := fun W hW => by have := right_any a b c W; rw [HP.out] at this; exact this
    have HCall0 := Lib.hid (show ∀ w', C w' → Calls Tryz.prog 117 #[.agg #[.int .i64 a, .int .i64 b, .int .i64 c]] w' (fun e w'' => e = .returned (.bool false) ∧ C w'') from fun w' hw' => (HFn0 w' ((HC.out w').1 hw').2.2.2.2.2.2).mono (fun e w'' hx => ⟨hx.1, HCin.out _ ((((HC.out w').1 hw').2.2.2.2.2.2).trans (hx.2.mono (((HC.out w').1 hw').2.2.2.2.2.2).size))⟩))
    clear hC HFn0
    go_wp2_with fail
    refine region_quietC (C := C) (by kernel_rfl) (by kernel_rfl) (HCin.out _ (Below.refl _ _).drew) ?_
    repeat (first
      | go_big_quiet_skip
      | (go_big_quiet_want; go_big_quiet_op; go_big_quiet_on)
      | (refine quiet_take (v := ?_) (by rfl) ?_ ?_
         rotate_left
         · intro w' hw'
           obtain ⟨q0, q1, q2, q3, q4, q5, hbel⟩ := (HC.out w').1 hw'
           go_simp
           first
             | done
             | exact rfl
             | exact HCall0.out w' hw'
         simp only [Act.put, List.setIfInBounds_toArray, List.set_cons_zero, List.set_cons_succ]))
    refine wpQuiet_nil ?_
    intro wq hwq
    obtain ⟨q0, q1, q2, q3, q4, q5, kd⟩ := (HC.out wq).1 hwq
    clear hwq HCall0 HC HCin
    go_wp2
    go_ret
    exact ⟨rfl, kd⟩
  have HP := Lib.hid hp
  cases hc : inB M.c 0 999999999
  · rw [show sizesX a b c M = false by unfold sizesX; rw [hc, Bool.false_and, Bool.and_false]]
    have HCL := Lib.hid hc
    clear hp hc
    go_enter Tryz.func114, Tryz.ntmps114
    obtain ⟨C, hC⟩ : ∃ C : World → Prop, ∀ w', C w' ↔ (w'.cell? ⟨mb, 0, none⟩ = some (.int .i64 a) ∧ w'.cell? ⟨mb, 1, none⟩ = some (.int .i64 b) ∧ w'.cell? ⟨mb, 2, none⟩ = some (.int .i64 c) ∧ w'.cell? ⟨mb, 3, none⟩ = some (.int .i64 M.c) ∧ w'.cell? ⟨mb, 4, none⟩ = some (.slice ta M.tn tc) ∧ w'.cell? ⟨mb, 5, none⟩ = some (.slice qa M.pn qc) ∧ Below (w).heap.size (w) w') := ⟨_, fun _ => Iff.rfl⟩
    have HCin := Lib.hid (show ∀ w', Below (w).heap.size (w) w' → C w' from fun w' kd => (hC w').2 ⟨(kd.cell (p := ⟨mb, 0, none⟩) lM).trans m0, (kd.cell (p := ⟨mb, 1, none⟩) lM).trans m1, (kd.cell (p := ⟨mb, 2, none⟩) lM).trans m2, (kd.cell (p := ⟨mb, 3, none⟩) lM).trans m3, (kd.cell (p := ⟨mb, 4, none⟩) lM).trans m4, (kd.cell (p := ⟨mb, 5, none⟩) lM).trans m5, kd⟩)
    have HC := Lib.hid hC
    have HFn0 : ∀ W : World, Below (w).heap.size (w) W → Calls Tryz.prog 117 #[.agg #[.int .i64 a, .int .i64 b, .int .i64 c]] W (fun e w'' => e = .returned (.bool true) ∧ Below W.heap.size W w'') := fun W hW => by have := right_any a b c W; rw [HP.out] at this; exact this
    have HCall0 := Lib.hid (show ∀ w', C w' → Calls Tryz.prog 117 #[.agg #[.int .i64 a, .int .i64 b, .int .i64 c]] w' (fun e w'' => e = .returned (.bool true) ∧ C w'') from fun w' hw' => (HFn0 w' ((HC.out w').1 hw').2.2.2.2.2.2).mono (fun e w'' hx => ⟨hx.1, HCin.out _ ((((HC.out w').1 hw').2.2.2.2.2.2).trans (hx.2.mono (((HC.out w').1 hw').2.2.2.2.2.2).size))⟩))
    have HFn1 : ∀ W : World, Below (w).heap.size (w) W → Calls Tryz.prog 121 #[.int .i64 M.c, .int .i64 0, .int .i64 999999999] W (fun e w'' => e = .returned (.bool false) ∧ Below W.heap.size W w'') := fun W hW => (within_any M.c 0 999999999 W).mono (fun e w2 hx => by rw [HCL.out] at hx; exact ⟨hx.1, by rw [← hx.2]; exact Below.refl _ _⟩)
    have HCall1 := Lib.hid (show ∀ w', C w' → Calls Tryz.prog 121 #[.int .i64 M.c, .int .i64 0, .int .i64 999999999] w' (fun e w'' => e = .returned (.bool false) ∧ C w'') from fun w' hw' => (HFn1 w' ((HC.out w').1 hw').2.2.2.2.2.2).mono (fun e w'' hx => ⟨hx.1, HCin.out _ ((((HC.out w').1 hw').2.2.2.2.2.2).trans (hx.2.mono (((HC.out w').1 hw').2.2.2.2.2.2).size))⟩))
    clear hC HFn0 HFn1
    go_wp2_with fail
    refine region_quietC (C := C) (by kernel_rfl) (by kernel_rfl) (HCin.out _ (Below.refl _ _).drew) ?_
    repeat (first
      | go_big_quiet_skip
      | (go_big_quiet_want; go_big_quiet_op; go_big_quiet_on)
      | (refine quiet_take (v := ?_) (by rfl) ?_ ?_
         rotate_left
         · intro w' hw'
           obtain ⟨q0, q1, q2, q3, q4, q5, hbel⟩ := (HC.out w').1 hw'
           go_simp
           first
             | done
             | exact rfl
             | exact HCall0.out w' hw'
             | exact HCall1.out w' hw'
         simp only [Act.put, List.setIfInBounds_toArray, List.set_cons_zero, List.set_cons_succ]))
    refine wpQuiet_nil ?_
    intro wq hwq
    obtain ⟨q0, q1, q2, q3, q4, q5, kd⟩ := (HC.out wq).1 hwq
    clear hwq HCall0 HCall1 HC HCin
    go_wp2
    go_ret
    exact ⟨rfl, kd⟩
  have HCL := Lib.hid hc
  by_cases ht : (M.tn : Int) ≤ c
  · have bt : decide ((M.tn : Int) ≤ c) = true := by simpa using ht
    cases he : (M.pn : Int) == a
    · rw [show sizesX a b c M = false by unfold sizesX; rw [he, Bool.and_false, Bool.and_false, Bool.and_false]]
      clear hp hc
      go_enter Tryz.func114, Tryz.ntmps114
      obtain ⟨C, hC⟩ : ∃ C : World → Prop, ∀ w', C w' ↔ (w'.cell? ⟨mb, 0, none⟩ = some (.int .i64 a) ∧ w'.cell? ⟨mb, 1, none⟩ = some (.int .i64 b) ∧ w'.cell? ⟨mb, 2, none⟩ = some (.int .i64 c) ∧ w'.cell? ⟨mb, 3, none⟩ = some (.int .i64 M.c) ∧ w'.cell? ⟨mb, 4, none⟩ = some (.slice ta M.tn tc) ∧ w'.cell? ⟨mb, 5, none⟩ = some (.slice qa M.pn qc) ∧ Below (w).heap.size (w) w') := ⟨_, fun _ => Iff.rfl⟩
      have HCin := Lib.hid (show ∀ w', Below (w).heap.size (w) w' → C w' from fun w' kd => (hC w').2 ⟨(kd.cell (p := ⟨mb, 0, none⟩) lM).trans m0, (kd.cell (p := ⟨mb, 1, none⟩) lM).trans m1, (kd.cell (p := ⟨mb, 2, none⟩) lM).trans m2, (kd.cell (p := ⟨mb, 3, none⟩) lM).trans m3, (kd.cell (p := ⟨mb, 4, none⟩) lM).trans m4, (kd.cell (p := ⟨mb, 5, none⟩) lM).trans m5, kd⟩)
      have HC := Lib.hid hC
      have HFn0 : ∀ W : World, Below (w).heap.size (w) W → Calls Tryz.prog 117 #[.agg #[.int .i64 a, .int .i64 b, .int .i64 c]] W (fun e w'' => e = .returned (.bool true) ∧ Below W.heap.size W w'') := fun W hW => by have := right_any a b c W; rw [HP.out] at this; exact this
      have HCall0 := Lib.hid (show ∀ w', C w' → Calls Tryz.prog 117 #[.agg #[.int .i64 a, .int .i64 b, .int .i64 c]] w' (fun e w'' => e = .returned (.bool true) ∧ C w'') from fun w' hw' => (HFn0 w' ((HC.out w').1 hw').2.2.2.2.2.2).mono (fun e w'' hx => ⟨hx.1, HCin.out _ ((((HC.out w').1 hw').2.2.2.2.2.2).trans (hx.2.mono (((HC.out w').1 hw').2.2.2.2.2.2).size))⟩))
      have HFn1 : ∀ W : World, Below (w).heap.size (w) W → Calls Tryz.prog 121 #[.int .i64 M.c, .int .i64 0, .int .i64 999999999] W (fun e w'' => e = .returned (.bool true) ∧ Below W.heap.size W w'') := fun W hW => (within_any M.c 0 999999999 W).mono (fun e w2 hx => by rw [HCL.out] at hx; exact ⟨hx.1, by rw [← hx.2]; exact Below.refl _ _⟩)
      have HCall1 := Lib.hid (show ∀ w', C w' → Calls Tryz.prog 121 #[.int .i64 M.c, .int .i64 0, .int .i64 999999999] w' (fun e w'' => e = .returned (.bool true) ∧ C w'') from fun w' hw' => (HFn1 w' ((HC.out w').1 hw').2.2.2.2.2.2).mono (fun e w'' hx => ⟨hx.1, HCin.out _ ((((HC.out w').1 hw').2.2.2.2.2.2).trans (hx.2.mono (((HC.out w').1 hw').2.2.2.2.2.2).size))⟩))
      clear hC HFn0 HFn1
      go_wp2_with fail
      refine region_quietC (C := C) (by kernel_rfl) (by kernel_rfl) (HCin.out _ (Below.refl _ _).drew) ?_
      repeat (first
        | go_big_quiet_skip
        | (go_big_quiet_want; go_big_quiet_op; go_big_quiet_on)
        | (refine quiet_take (v := ?_) (by rfl) ?_ ?_
           rotate_left
           · intro w' hw'
             obtain ⟨q0, q1, q2, q3, q4, q5, hbel⟩ := (HC.out w').1 hw'
             go_simp
             first
               | done
               | exact rfl
               | exact HCall0.out w' hw'
               | exact HCall1.out w' hw'
           simp only [Act.put, List.setIfInBounds_toArray, List.set_cons_zero, List.set_cons_succ]))
      refine wpQuiet_nil ?_
      intro wq hwq
      obtain ⟨q0, q1, q2, q3, q4, q5, kd⟩ := (HC.out wq).1 hwq
      clear hwq HCall0 HCall1 HC HCin
      go_wp2
      go_ret
      exact ⟨rfl, kd⟩
    · rw [show sizesX a b c M = true by unfold sizesX; rw [hp, hc, bt, he]; rfl]
      clear hp hc
      go_enter Tryz.func114, Tryz.ntmps114
      obtain ⟨C, hC⟩ : ∃ C : World → Prop, ∀ w', C w' ↔ (w'.cell? ⟨mb, 0, none⟩ = some (.int .i64 a) ∧ w'.cell? ⟨mb, 1, none⟩ = some (.int .i64 b) ∧ w'.cell? ⟨mb, 2, none⟩ = some (.int .i64 c) ∧ w'.cell? ⟨mb, 3, none⟩ = some (.int .i64 M.c) ∧ w'.cell? ⟨mb, 4, none⟩ = some (.slice ta M.tn tc) ∧ w'.cell? ⟨mb, 5, none⟩ = some (.slice qa M.pn qc) ∧ Below (w).heap.size (w) w') := ⟨_, fun _ => Iff.rfl⟩
      have HCin := Lib.hid (show ∀ w', Below (w).heap.size (w) w' → C w' from fun w' kd => (hC w').2 ⟨(kd.cell (p := ⟨mb, 0, none⟩) lM).trans m0, (kd.cell (p := ⟨mb, 1, none⟩) lM).trans m1, (kd.cell (p := ⟨mb, 2, none⟩) lM).trans m2, (kd.cell (p := ⟨mb, 3, none⟩) lM).trans m3, (kd.cell (p := ⟨mb, 4, none⟩) lM).trans m4, (kd.cell (p := ⟨mb, 5, none⟩) lM).trans m5, kd⟩)
      have HC := Lib.hid hC
      have HFn0 : ∀ W : World, Below (w).heap.size (w) W → Calls Tryz.prog 117 #[.agg #[.int .i64 a, .int .i64 b, .int .i64 c]] W (fun e w'' => e = .returned (.bool true) ∧ Below W.heap.size W w'') := fun W hW => by have := right_any a b c W; rw [HP.out] at this; exact this
      have HCall0 := Lib.hid (show ∀ w', C w' → Calls Tryz.prog 117 #[.agg #[.int .i64 a, .int .i64 b, .int .i64 c]] w' (fun e w'' => e = .returned (.bool true) ∧ C w'') from fun w' hw' => (HFn0 w' ((HC.out w').1 hw').2.2.2.2.2.2).mono (fun e w'' hx => ⟨hx.1, HCin.out _ ((((HC.out w').1 hw').2.2.2.2.2.2).trans (hx.2.mono (((HC.out w').1 hw').2.2.2.2.2.2).size))⟩))
      have HFn1 : ∀ W : World, Below (w).heap.size (w) W → Calls Tryz.prog 121 #[.int .i64 M.c, .int .i64 0, .int .i64 999999999] W (fun e w'' => e = .returned (.bool true) ∧ Below W.heap.size W w'') := fun W hW => (within_any M.c 0 999999999 W).mono (fun e w2 hx => by rw [HCL.out] at hx; exact ⟨hx.1, by rw [← hx.2]; exact Below.refl _ _⟩)
      have HCall1 := Lib.hid (show ∀ w', C w' → Calls Tryz.prog 121 #[.int .i64 M.c, .int .i64 0, .int .i64 999999999] w' (fun e w'' => e = .returned (.bool true) ∧ C w'') from fun w' hw' => (HFn1 w' ((HC.out w').1 hw').2.2.2.2.2.2).mono (fun e w'' hx => ⟨hx.1, HCin.out _ ((((HC.out w').1 hw').2.2.2.2.2.2).trans (hx.2.mono (((HC.out w').1 hw').2.2.2.2.2.2).size))⟩))
      clear hC HFn0 HFn1
      go_wp2_with fail
      refine region_quietC (C := C) (by kernel_rfl) (by kernel_rfl) (HCin.out _ (Below.refl _ _).drew) ?_
      repeat (first
        | go_big_quiet_skip
        | (go_big_quiet_want; go_big_quiet_op; go_big_quiet_on)
        | (refine quiet_take (v := ?_) (by rfl) ?_ ?_
           rotate_left
           · intro w' hw'
             obtain ⟨q0, q1, q2, q3, q4, q5, hbel⟩ := (HC.out w').1 hw'
             go_simp
             first
               | done
               | exact rfl
               | exact HCall0.out w' hw'
               | exact HCall1.out w' hw'
           simp only [Act.put, List.setIfInBounds_toArray, List.set_cons_zero, List.set_cons_succ]))
      refine wpQuiet_nil ?_
      intro wq hwq
      obtain ⟨q0, q1, q2, q3, q4, q5, kd⟩ := (HC.out wq).1 hwq
      clear hwq HCall0 HCall1 HC HCin
      go_wp2
      go_ret
      exact ⟨rfl, kd⟩
  · have bt : decide ((M.tn : Int) ≤ c) = false := by simpa using ht
    rw [show sizesX a b c M = false by unfold sizesX; rw [bt, Bool.false_and, Bool.and_false, Bool.and_false]]
    clear hp hc
    go_enter Tryz.func114, Tryz.ntmps114
    obtain ⟨C, hC⟩ : ∃ C : World → Prop, ∀ w', C w' ↔ (w'.cell? ⟨mb, 0, none⟩ = some (.int .i64 a) ∧ w'.cell? ⟨mb, 1, none⟩ = some (.int .i64 b) ∧ w'.cell? ⟨mb, 2, none⟩ = some (.int .i64 c) ∧ w'.cell? ⟨mb, 3, none⟩ = some (.int .i64 M.c) ∧ w'.cell? ⟨mb, 4, none⟩ = some (.slice ta M.tn tc) ∧ w'.cell? ⟨mb, 5, none⟩ = some (.slice qa M.pn qc) ∧ Below (w).heap.size (w) w') := ⟨_, fun _ => Iff.rfl⟩
    have HCin := Lib.hid (show ∀ w', Below (w).heap.size (w) w' → C w' from fun w' kd => (hC w').2 ⟨(kd.cell (p := ⟨mb, 0, none⟩) lM).trans m0, (kd.cell (p := ⟨mb, 1, none⟩) lM).trans m1, (kd.cell (p := ⟨mb, 2, none⟩) lM).trans m2, (kd.cell (p := ⟨mb, 3, none⟩) lM).trans m3, (kd.cell (p := ⟨mb, 4, none⟩) lM).trans m4, (kd.cell (p := ⟨mb, 5, none⟩) lM).trans m5, kd⟩)
    have HC := Lib.hid hC
    have HFn0 : ∀ W : World, Below (w).heap.size (w) W → Calls Tryz.prog 117 #[.agg #[.int .i64 a, .int .i64 b, .int .i64 c]] W (fun e w'' => e = .returned (.bool true) ∧ Below W.heap.size W w'') := fun W hW => by have := right_any a b c W; rw [HP.out] at this; exact this
    have HCall0 := Lib.hid (show ∀ w', C w' → Calls Tryz.prog 117 #[.agg #[.int .i64 a, .int .i64 b, .int .i64 c]] w' (fun e w'' => e = .returned (.bool true) ∧ C w'') from fun w' hw' => (HFn0 w' ((HC.out w').1 hw').2.2.2.2.2.2).mono (fun e w'' hx => ⟨hx.1, HCin.out _ ((((HC.out w').1 hw').2.2.2.2.2.2).trans (hx.2.mono (((HC.out w').1 hw').2.2.2.2.2.2).size))⟩))
    have HFn1 : ∀ W : World, Below (w).heap.size (w) W → Calls Tryz.prog 121 #[.int .i64 M.c, .int .i64 0, .int .i64 999999999] W (fun e w'' => e = .returned (.bool true) ∧ Below W.heap.size W w'') := fun W hW => (within_any M.c 0 999999999 W).mono (fun e w2 hx => by rw [HCL.out] at hx; exact ⟨hx.1, by rw [← hx.2]; exact Below.refl _ _⟩)
    have HCall1 := Lib.hid (show ∀ w', C w' → Calls Tryz.prog 121 #[.int .i64 M.c, .int .i64 0, .int .i64 999999999] w' (fun e w'' => e = .returned (.bool true) ∧ C w'') from fun w' hw' => (HFn1 w' ((HC.out w').1 hw').2.2.2.2.2.2).mono (fun e w'' hx => ⟨hx.1, HCin.out _ ((((HC.out w').1 hw').2.2.2.2.2.2).trans (hx.2.mono (((HC.out w').1 hw').2.2.2.2.2.2).size))⟩))
    clear hC HFn0 HFn1
    go_wp2_with fail
    refine region_quietC (C := C) (by kernel_rfl) (by kernel_rfl) (HCin.out _ (Below.refl _ _).drew) ?_
    repeat (first
      | go_big_quiet_skip
      | (go_big_quiet_want; go_big_quiet_op; go_big_quiet_on)
      | (refine quiet_take (v := ?_) (by rfl) ?_ ?_
         rotate_left
         · intro w' hw'
           obtain ⟨q0, q1, q2, q3, q4, q5, hbel⟩ := (HC.out w').1 hw'
           go_simp
           first
             | done
             | exact rfl
             | exact HCall0.out w' hw'
             | exact HCall1.out w' hw'
         simp only [Act.put, List.setIfInBounds_toArray, List.set_cons_zero, List.set_cons_succ]))
    refine wpQuiet_nil ?_
    intro wq hwq
    obtain ⟨q0, q1, q2, q3, q4, q5, kd⟩ := (HC.out wq).1 hwq
    clear hwq HCall0 HCall1 HC HCin
    go_wp2
    go_ret
    exact ⟨rfl, kd⟩

end Go.Proofs.YtflekodaiejflaaGreat

/-
  A memory as the program works with it (chapter 5): seen in a Mem.
-/
namespace Go.Proofs.YtflekodaiejflaaGreat
open Go.RowKit Go.Joins
set_option linter.unusedVariables false
set_option linter.unusedSimpArgs false

/-- a memory that is seen in a Mem, which stood in the world W: its own block, its own list of processors; the timers and the slots are another one's -/
def SeenIn (w W : World) (mb : Nat) (a b c : Int) (M : Me) : Prop :=
  ∃ tv g V, W.heap.size ≤ mb ∧ w.heap[mb]? = some (memB a b c M.c tv (.slice (some ⟨g, 0, none⟩) M.pn M.pn)) ∧ RowTAt W tv M.tn M.t ∧ ListXAt w W.heap.size g M.pn M.pn M.p V ∧ ∀ i, i < M.pn → RowAt W (V i) (M.p i).n (M.p i).f
theorem SeenIn.seen {w W : World} {mb : Nat} {a b c : Int} {M : Me} (h : SeenIn w W mb a b c M) (hb : Below W.heap.size W w) : SeenAt w mb a b c M := by
  obtain ⟨tv, g, V, _, h1, h2, h3, h4⟩ := h
  exact ⟨tv, _, h1, h2.below hb, h3.row fun i hi => (h4 i hi).below hb⟩
theorem SeenIn.below {w w' W : World} {mb : Nat} {a b c : Int} {M : Me} (h : SeenIn w W mb a b c M) (hb : Below w.heap.size w w') : SeenIn w' W mb a b c M := by
  obtain ⟨tv, g, V, h0, h1, h2, h3, h4⟩ := h
  exact ⟨tv, g, V, h0, b_block hb h1 (lt_of_block h1), h2, h3.below hb, h4⟩

set_option maxRecDepth 100000 in
set_option maxHeartbeats 4000000 in
theorem seenIn_any (a b c : Int) {tv pv : Value} {M : Me} {w : World} (hs : sizeM M ≤ 1048576) (h : MemAt w tv pv M) :
    Calls Tryz.prog 96 #[.agg #[.int .i64 a, .int .i64 b, .int .i64 c], meV M.c tv pv] w fun x w' => ∃ mb, x = .returned (ptrV mb) ∧ SeenIn w' w mb a b c M ∧ Below w.heap.size w w' := by
  obtain ⟨htn, hpn, hsl, hns⟩ := sizeM_le hs
  obtain ⟨ta, tc, qa, qc, rfl, rfl⟩ := h.form
  have hmk := run_make_px M.pn hpn
  have k0 := (Below.refl w.heap.size w).alloc (Nat.le_refl _) (.cells #[.int .i64 a, .int .i64 b, .int .i64 c] 46)
  have e0 : (w.alloc (.cells #[.int .i64 a, .int .i64 b, .int .i64 c] 46)).heap.size = w.heap.size + 1 := by simp
  have k1 := k0.alloc k0.size (memO M.c (.slice ta M.tn tc) (.slice qa M.pn qc) 36)
  have e1 : ((w.alloc (.cells #[.int .i64 a, .int .i64 b, .int .i64 c] 46)).alloc (memO M.c (.slice ta M.tn tc) (.slice qa M.pn qc) 36)).heap.size = w.heap.size + 1 + 1 := by simp
  have hP := alloc_block (memO M.c (.slice ta M.tn tc) (.slice qa M.pn qc) 36) (heap_alloc_new w (.cells #[.int .i64 a, .int .i64 b, .int .i64 c] 46))
  have hA := heap_alloc_new (w.alloc (.cells #[.int .i64 a, .int .i64 b, .int .i64 c] 46)) (memO M.c (.slice ta M.tn tc) (.slice qa M.pn qc) 36)
  rw [e0] at hA
  have k2 := k1.alloc k1.size (madeX M.pn)
  have hA2 := alloc_block (madeX M.pn) hA
  have hL2 := (listx_made ((w.alloc (.cells #[.int .i64 a, .int .i64 b, .int .i64 c] 46)).alloc (memO M.c (.slice ta M.tn tc) (.slice qa M.pn qc) 36)) M.pn (by unfold maxLen; omega)).congr (Q := upToP M.p 0) (U := fun _ => .slice none 0 0) (fun i hi => by simp [upToP]) (fun _ _ => rfl)
  rw [e1] at hL2
  have e2 : (((w.alloc (.cells #[.int .i64 a, .int .i64 b, .int .i64 c] 46)).alloc (memO M.c (.slice ta M.tn tc) (.slice qa M.pn qc) 36)).alloc (madeX M.pn)).heap.size = w.heap.size + 1 + 1 + 1 := by simp
  have k3 := (k2.alloc k2.size (memB a b c M.c (.slice ta M.tn tc) (.slice (some ⟨w.heap.size + 1 + 1, 0, none⟩) M.pn M.pn))).drew
  have hA3 := alloc_block (memB a b c M.c (.slice ta M.tn tc) (.slice (some ⟨w.heap.size + 1 + 1, 0, none⟩) M.pn M.pn)) hA2
  have hM3 := heap_alloc_new (((w.alloc (.cells #[.int .i64 a, .int .i64 b, .int .i64 c] 46)).alloc (memO M.c (.slice ta M.tn tc) (.slice qa M.pn qc) 36)).alloc (madeX M.pn)) (memB a b c M.c (.slice ta M.tn tc) (.slice (some ⟨w.heap.size + 1 + 1, 0, none⟩) M.pn M.pn))
  rw [e2] at hM3
  have hL3 := hL2.below ((Below.refl _ _).alloc (Nat.le_refl _) (memB a b c M.c (.slice ta M.tn tc) (.slice (some ⟨w.heap.size + 1 + 1, 0, none⟩) M.pn M.pn)))
  obtain ⟨p0, p1, p2, _, _, _⟩ := three hP
  obtain ⟨a0, a1, a2, _, _, _⟩ := three hA
  have H := Lib.hid h
  have HN := Lib.hid hns
  clear h hns hsl
  go_enter Tryz.func96, Tryz.ntmps96
  go_wp2_with fail
  go_region
  have hA4 : ((((w.alloc (.cells #[.int .i64 a, .int .i64 b, .int .i64 c] 46)).alloc (memO M.c (.slice ta M.tn tc) (.slice qa M.pn qc) 36)).alloc (madeX M.pn)).alloc (memB a b c M.c (.slice ta M.tn tc) (.slice (some ⟨w.heap.size + 1 + 1, 0, none⟩) M.pn M.pn))).drew.heap[w.heap.size + 1]? = some (memO M.c (.slice ta M.tn tc) (.slice qa M.pn qc) 36) := hA3
  have hM4 : ((((w.alloc (.cells #[.int .i64 a, .int .i64 b, .int .i64 c] 46)).alloc (memO M.c (.slice ta M.tn tc) (.slice qa M.pn qc) 36)).alloc (madeX M.pn)).alloc (memB a b c M.c (.slice ta M.tn tc) (.slice (some ⟨w.heap.size + 1 + 1, 0, none⟩) M.pn M.pn))).drew.heap[w.heap.size + 1 + 1 + 1]? = some (memB a b c M.c (.slice ta M.tn tc) (.slice (some ⟨w.heap.size + 1 + 1, 0, none⟩) M.pn M.pn)) := hM3
  have hL4 : ListXAt ((((w.alloc (.cells #[.int .i64 a, .int .i64 b, .int .i64 c] 46)).alloc (memO M.c (.slice ta M.tn tc) (.slice qa M.pn qc) 36)).alloc (madeX M.pn)).alloc (memB a b c M.c (.slice ta M.tn tc) (.slice (some ⟨w.heap.size + 1 + 1, 0, none⟩) M.pn M.pn))).drew (w.heap.size + 1 + 1) (w.heap.size + 1 + 1) M.pn M.pn (upToP M.p 0) (fun _ => .slice none 0 0) := hL3
  clear hA3 hM3 hL3 hL2 hA2 k2 hmk p0 p1 p2 a0 a1 a2 hP hA k0 k1 e0 e1 e2
  generalize ((((w.alloc (.cells #[.int .i64 a, .int .i64 b, .int .i64 c] 46)).alloc (memO M.c (.slice ta M.tn tc) (.slice qa M.pn qc) 36)).alloc (madeX M.pn)).alloc (memB a b c M.c (.slice ta M.tn tc) (.slice (some ⟨w.heap.size + 1 + 1, 0, none⟩) M.pn M.pn))).drew = wz at k3 hA4 hM4 hL4 ⊢
  obtain ⟨a0, a1, a2, _, _, _⟩ := three hA4
  go_wp2_with fail
  go_loopw [22] (fun i wr => ∃ (k : Nat) (V : Nat → Value), k ≤ M.pn ∧ i = .int .i64 k ∧ wr.heap[w.heap.size + 1 + 1 + 1]? = some (memB a b c M.c (.slice ta M.tn tc) (.slice (some ⟨w.heap.size + 1 + 1, 0, none⟩) M.pn M.pn)) ∧ ListXAt wr (w.heap.size + 1 + 1) (w.heap.size + 1 + 1) M.pn M.pn (upToP M.p k) V ∧ (∀ i, i < k → RowAt w (V i) (M.p i).n (M.p i).f) ∧ Below w.heap.size w wr) (fun i _ => M.pn - (intOf i).toNat)
  case atStart => exact ⟨0, _, Nat.zero_le _, rfl, hM4, hL4, fun i hi => absurd hi (Nat.not_lt_zero _), k3⟩
  case round =>
    clear hA4 hM4 hL4 a0 a1 a2 k3
    obtain ⟨k, V, hk, rfl, hM, hL, hV, kw⟩ := hrel
    have lM := lt_of_block hM
    by_cases hlt : k < M.pn
    · have i1 : (k : Int) < (M.pn : Int) := by omega
      have i0 : (0 : Int) ≤ (k : Int) := by omega
      rcases H.out.2 with ⟨h0, _⟩ | ⟨sb, soff, scap, es, sl, sc⟩
      · omega
      injection es with es1 es2 es3
      subst es1 es3
      obtain ⟨pa, pc, r0, r1, r2, r3, srow⟩ := sc k hlt
      have s0 := (kw.cell (p := ⟨sb, soff + k * 4, none⟩) sl).trans r0
      have s1 := (kw.cell (p := ⟨sb, soff + k * 4 + 1, none⟩) sl).trans r1
      have s2 := (kw.cell (p := ⟨sb, soff + k * 4 + 2, none⟩) sl).trans r2
      have s3 := (kw.cell (p := ⟨sb, soff + k * 4 + 3, none⟩) sl).trans r3
      clear r0 r1 r2 r3
      have hMa := alloc_block (.cells #[.slice pa (M.p k).n pc, .int .i64 (M.p k).l, .int .i64 (M.p k).e, .int .i64 (M.p k).d] 87) hM
      have hXa := heap_alloc_new wr (.cells #[.slice pa (M.p k).n pc, .int .i64 (M.p k).l, .int .i64 (M.p k).e, .int .i64 (M.p k).d] 87)
      have lXa := lt_of_block hXa
      have lMa := lt_of_block hMa
      have ka := kw.alloc kw.size (.cells #[.slice pa (M.p k).n pc, .int .i64 (M.p k).l, .int .i64 (M.p k).e, .int .i64 (M.p k).d] 87)
      have hLa := hL.below ((Below.refl wr.heap.size wr).alloc (Nat.le_refl _) (.cells #[.slice pa (M.p k).n pc, .int .i64 (M.p k).l, .int .i64 (M.p k).e, .int .i64 (M.p k).d] 87))
      obtain ⟨m0, m1, m2, m3, m4, m5⟩ := six hMa
      obtain ⟨x0, x1, x2, x3, _, _, _, _⟩ := four hXa
      go_wp2_with fail
      go_region_law (first
        | (go_simp; go_at_call 113; refine (processorOf_any (M.p k).l (M.p k).e (M.p k).d ⟨_, _, rfl⟩).mono ?_; rintro x w1 ⟨rfl, hb⟩
           replace hb := (Below.refl _ (wr.alloc (.cells #[.slice pa (M.p k).n pc, .int .i64 (M.p k).l, .int .i64 (M.p k).e, .int .i64 (M.p k).d] 87))).drew.trans (hb.mono (Nat.le_refl _))
           have hL1 := hLa.below hb
           have fr := hL1.free
           have f0 := fr (k * 4); have f1 := fr (k * 4 + 1); have f2 := fr (k * 4 + 2); have f3 := fr (k * 4 + 3)
           obtain ⟨d0, d1, d2, d3⟩ := hL1.cells hlt
           have hM1 := b_block hb hMa lMa
           obtain ⟨n0, n1, n2, n3, n4, n5⟩ := six hM1
           have k1 := ka.trans (hb.mono ka.size)))
      all_goals
        have hLn := (hL1.put hlt (.slice pa (M.p k).n pc) (M.p k)).congr (upToP_put (P := M.p)) (fun _ _ => rfl)
        have hMn := (heap_setX w1 (w.heap.size + 1 + 1) k (.slice pa (M.p k).n pc) (M.p k).l (M.p k).e (M.p k).d (x := w.heap.size + 1 + 1 + 1) (by omega)).trans hM1
        have kn := b_setX k1 (g := w.heap.size + 1 + 1) (by omega) k (.slice pa (M.p k).n pc) (M.p k).l (M.p k).e (M.p k).d
        have hVn : ∀ i, i < k + 1 → RowAt w (putV V k (.slice pa (M.p k).n pc) i) (M.p i).n (M.p i).f := fun i hi => by
          by_cases e : i = k
          · subst e; rw [putV_same]; exact srow
          · rw [putV_other V _ e]; exact hV i (by omega)
        clear n0 n1 n2 n3 n4 n5 m0 m1 m2 m3 m4 m5 x0 x1 x2 x3 s0 s1 s2 s3 d0 d1 d2 d3 f0 f1 f2 f3 hV hL hLa hL1
        go_wp2
        exact ⟨⟨k + 1, _, by omega, by go_num, hMn, hLn, hVn, kn⟩, by simp only [intOf]; omega⟩
    · have hkn : k = M.pn := by omega
      subst hkn
      have i1 : ¬ (M.pn : Int) < (M.pn : Int) := by omega
      go_wp2
      go_ret
      exact ⟨_, rfl, ⟨_, _, V, by omega, hM, H.out.1, (hL.congr (Q := M.p) (fun i hi => by simp [upToP, hi]) (fun _ _ => rfl)).mono (by omega), hV⟩, kw⟩

theorem seen_any (a b c : Int) {tv pv : Value} {M : Me} {w : World} (hs : sizeM M ≤ 1048576) (h : MemAt w tv pv M) :
    Calls Tryz.prog 96 #[.agg #[.int .i64 a, .int .i64 b, .int .i64 c], meV M.c tv pv] w fun x w' => ∃ mb, x = .returned (ptrV mb) ∧ SeenAt w' mb a b c M ∧ Below w.heap.size w w' :=
  (seenIn_any a b c hs h).mono fun x w' ⟨mb, h1, h2, h3⟩ => ⟨mb, h1, h2.seen h3, h3⟩

end Go.Proofs.YtflekodaiejflaaGreat

/-
  Memories (spec, chapter 5): when is the first of all processors to wake?
-/
namespace Go.Proofs.YtflekodaiejflaaGreat
open Go.RowKit Go.Joins
set_option linter.unusedVariables false
set_option linter.unusedSimpArgs false

def stepW (best n : Int) : Int := if 0 ≤ n ∧ (best < 0 ∨ n < best) then n else best
def bestW (P : Pcs) : Nat → Int
  | 0 => -1
  | k + 1 => stepW (bestW P k) (wakeI (P k).f (P k).n (P k).e)
def wakeAllI (a b c : Int) (M : Me) : Int := if memOkB a b c M = true then bestW M.p M.pn else -1

end Go.Proofs.YtflekodaiejflaaGreat

/-
  The exact laws on a memory whose answer is a truth value or a number, told what the program answers.
-/
namespace Go.Proofs.YtflekodaiejflaaGreat
open Go.RowKit Go.Joins
set_option linter.unusedVariables false
set_option linter.unusedSimpArgs false

/-- what the program's function of a plan and a memory is to answer -/
def AsksMB (fn : FuncId) (g : Int → Int → Int → Me → Bool) : Prop := ∀ (a b c : Int) (tv pv : Value) (M : Me) (w : World), sizeM M ≤ 1048576 → MemAt w tv pv M → Calls Tryz.prog fn #[.agg #[.int .i64 a, .int .i64 b, .int .i64 c], meV M.c tv pv] w fun x w' => x = .returned (.bool (g a b c M)) ∧ Below w.heap.size w w'
def AsksMI (fn : FuncId) (g : Int → Int → Int → Me → Int) : Prop := ∀ (a b c : Int) (tv pv : Value) (M : Me) (w : World), sizeM M ≤ 1048576 → MemAt w tv pv M → Calls Tryz.prog fn #[.agg #[.int .i64 a, .int .i64 b, .int .i64 c], meV M.c tv pv] w fun x w' => x = .returned (.int .i64 (g a b c M)) ∧ Below w.heap.size w w'

end Go.Proofs.YtflekodaiejflaaGreat
