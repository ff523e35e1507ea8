/-
  Memories (spec, chapter 5): do a processor's slots agree with the timers?
-/
import Derived.Test.YtflekodaiejflaaGreatL02
import Derived.Test.YtflekodaiejflaaGreatL00
import Derived.Test.YtflekodaiejflaaGreatL01
namespace Go.Proofs.YtflekodaiejflaaGreat
open Go.RowKit Go.Joins
set_option linter.unusedVariables false
set_option linter.unusedSimpArgs false

/-- is there such a timer? -/
def hasT (M : Me) (t : Int) : Bool := inB t 0 ((M.tn : Int) - 1)
theorem hasT_iff {M : Me} {t : Int} : hasT M t = true ↔ 0 ≤ t ∧ t < M.tn := by
  unfold hasT; rw [inB_iff]; omega
def slotOkB (M : Me) (k : Int) (s : Int × Int) : Bool := hasT M s.1 && ((M.t s.1.toNat).pl == k && (M.t s.1.toNat).wh == s.2)
def earlyOkB (M : Me) (e : Int) (s : Int × Int) : Bool := !((M.t s.1.toNat).st == 3 && (decide (e < 0) || decide ((M.t s.1.toNat).nx < e)))
def delsF (M : Me) (f : Slots) : Nat → Int
  | 0 => 0
  | i + 1 => delsF M f i + if (M.t (f i).1.toNat).st = 5 then 1 else 0
def slotsOkB (M : Me) (k e : Int) (f : Slots) : Nat → Bool
  | 0 => true
  | i + 1 => slotsOkB M k e f i && (slotOkB M k (f i) && earlyOkB M e (f i))
theorem slotsOk_bad {M : Me} {k e : Int} {f : Slots} {i : Nat} (h : (slotOkB M k (f i) && earlyOkB M e (f i)) = false) : ∀ n, i < n → slotsOkB M k e f n = false
  | 0, hn => absurd hn (Nat.not_lt_zero _)
  | n + 1, hn => by
    rw [slotsOkB]
    by_cases e' : i = n
    · subst e'; rw [h, Bool.and_false]
    · rw [slotsOk_bad h n (by omega), Bool.false_and]
theorem dels_le (M : Me) (f : Slots) : ∀ n, 0 ≤ delsF M f n ∧ delsF M f n ≤ n
  | 0 => ⟨Int.le_refl _, Int.le_refl _⟩
  | n + 1 => by
    have := dels_le M f n
    rw [delsF]
    split <;> omega
/-- does the processor agree with the timers? -/
def agreeB (a b c : Int) (M : Me) (k : Nat) : Bool :=
  procOkB a b c (M.p k).f (M.p k).n (M.p k).l (M.p k).e (M.p k).d && (slotsOkB M k (M.p k).e (M.p k).f (M.p k).n && delsF M (M.p k).f (M.p k).n == (M.p k).d)

theorem b_alloc1 {W w : World} {o : Obj} (h : Below W.heap.size W w) : Below W.heap.size W (w.alloc o) := h.alloc h.size o

set_option maxHeartbeats 400000 in
theorem l5Has_any {M : Me} {tv pv : Value} (hv : ∃ a cap, tv = .slice a M.tn cap) (hn : M.tn ≤ 1048576) (t : Int) (w : World) :
    Calls Tryz.prog 65 #[meV M.c tv pv, .int .i64 t] w fun e w' => e = .returned (.bool (hasT M t)) ∧ Below w.heap.size w w' := by
  obtain ⟨a, cap, rfl⟩ := hv
  have k0 := (Below.refl w.heap.size w).alloc (Nat.le_refl _) (memO M.c (.slice a M.tn cap) pv 36)
  have hAv := heap_alloc_new w (memO M.c (.slice a M.tn cap) pv 36)
  obtain ⟨a0, a1, a2, _, _, _⟩ := three hAv
  clear hAv
  unfold hasT
  go_enter Tryz.func65, Tryz.ntmps65
  go_wp2_with fail
  go_at_call 34; refine (l1In_any _ _ _ _).mono ?_; rintro x w1 ⟨rfl, rfl⟩
  go_wp2
  go_ret
  exact ⟨rfl, k0⟩

set_option maxRecDepth 100000 in
set_option maxHeartbeats 8000000 in
theorem l5Proc_any (a b c : Int) {tv pv : Value} {M : Me} {k : Nat} {w : World} (hk : k < M.pn) (hs : sizeM M ≤ 1048576) (h : MemAt w tv pv M) :
    Calls Tryz.prog 87 #[.agg #[.int .i64 a, .int .i64 b, .int .i64 c], meV M.c tv pv, .int .i64 k] w fun e w' => e = .returned (.bool (agreeB a b c M k)) ∧ Below w.heap.size w w' := by
  obtain ⟨htn, hpn, hsl, hns⟩ := sizeM_le hs
  have hnk := hns k hk
  obtain ⟨ta, tc, qa, qc, rfl, rfl⟩ := h.form
  -- the processor's own cells
  rcases h.2 with ⟨h0, _⟩ | ⟨pb, po, pcap, ev, hpl, hpc⟩
  · omega
  injection ev with ev1 ev2 ev3
  subst ev1 ev3
  have hP := hpc k hk
  have k0 := (Below.refl w.heap.size w).alloc (Nat.le_refl _) (.cells #[.int .i64 a, .int .i64 b, .int .i64 c] 46)
  have e0 : (w.alloc (.cells #[.int .i64 a, .int .i64 b, .int .i64 c] 46)).heap.size = w.heap.size + 1 := by simp
  have k1 := k0.alloc (by omega) (memO M.c (.slice ta M.tn tc) (.slice (some ⟨pb, po, none⟩) M.pn qc) 36)
  have e1 : ((w.alloc (.cells #[.int .i64 a, .int .i64 b, .int .i64 c] 46)).alloc (memO M.c (.slice ta M.tn tc) (.slice (some ⟨pb, po, none⟩) M.pn qc) 36)).heap.size = w.heap.size + 1 + 1 := by simp
  obtain ⟨xa, xc, c0, c1, c2, c3, hrow⟩ := hP.below hpl k1
  have k2 := k1.alloc (by omega) (.cells #[.slice xa (M.p k).n xc, .int .i64 (M.p k).l, .int .i64 (M.p k).e, .int .i64 (M.p k).d] 87)
  have hA := alloc_block (.cells #[.slice xa (M.p k).n xc, .int .i64 (M.p k).l, .int .i64 (M.p k).e, .int .i64 (M.p k).d] 87) (alloc_block (memO M.c (.slice ta M.tn tc) (.slice (some ⟨pb, po, none⟩) M.pn qc) 36) (heap_alloc_new w (.cells #[.int .i64 a, .int .i64 b, .int .i64 c] 46)))
  have hMv := alloc_block (.cells #[.slice xa (M.p k).n xc, .int .i64 (M.p k).l, .int .i64 (M.p k).e, .int .i64 (M.p k).d] 87) (heap_alloc_new (w.alloc (.cells #[.int .i64 a, .int .i64 b, .int .i64 c] 46)) (memO M.c (.slice ta M.tn tc) (.slice (some ⟨pb, po, none⟩) M.pn qc) 36))
  rw [e0] at hMv
  have hX := heap_alloc_new ((w.alloc (.cells #[.int .i64 a, .int .i64 b, .int .i64 c] 46)).alloc (memO M.c (.slice ta M.tn tc) (.slice (some ⟨pb, po, none⟩) M.pn qc) 36)) (.cells #[.slice xa (M.p k).n xc, .int .i64 (M.p k).l, .int .i64 (M.p k).e, .int .i64 (M.p k).d] 87)
  rw [e1] at hX
  have hik : (0 : Int) ≤ (k : Int) := by omega
  have hik2 : (k : Int) < (M.pn : Int) := by omega
  have hrow2 := hrow.below ((Below.refl _ _).alloc (Nat.le_refl _) (.cells #[.slice xa (M.p k).n xc, .int .i64 (M.p k).l, .int .i64 (M.p k).e, .int .i64 (M.p k).d] 87))
  have HT := Lib.hid h.1
  have HROW := Lib.hid hrow2
  clear h hP hpc hrow hrow2 hsl hns hs k0 e0 e1
  cases hB : procOkB a b c (M.p k).f (M.p k).n (M.p k).l (M.p k).e (M.p k).d
  · rw [show agreeB a b c M k = false by unfold agreeB; rw [hB, Bool.false_and]]
    have HB := Lib.hid hB
    clear hB
    go_enter Tryz.func87, Tryz.ntmps87
    go_wp2_with fail
    go_at_call 109; refine (spProcOk_any _ _ _ _ _ _ hnk HROW.out).mono ?_; rw [HB.out]; rintro x w1 ⟨rfl, hb⟩
    go_wp2
    go_ret
    exact ⟨rfl, k2.trans (hb.mono k2.size)⟩
  have hag : agreeB a b c M k = (slotsOkB M k (M.p k).e (M.p k).f (M.p k).n && delsF M (M.p k).f (M.p k).n == (M.p k).d) := by unfold agreeB; rw [hB, Bool.true_and]
  rw [hag]
  have HB := Lib.hid hB
  clear hB hag
  go_enter Tryz.func87, Tryz.ntmps87
  go_wp2_with fail
  go_at_call 109; refine (spProcOk_any _ _ _ _ _ _ hnk HROW.out).mono ?_; rw [HB.out]; rintro x W2 ⟨rfl, hb⟩
  have kr := k2.trans (hb.mono k2.size)
  have hX2 := b_block hb hX (lt_of_block hX)
  have hM2 := b_block hb hMv (lt_of_block hMv)
  have HR2 := Lib.hid (HROW.out.below hb)
  have HT2 := Lib.hid (HT.out.below kr)
  have lX := lt_of_block hX2
  have lM := lt_of_block hM2
  have HXB := Lib.hid hX2
  have HMB := Lib.hid hM2
  clear hb k1 k2 hA hMv hX HROW HT HB c0 c1 c2 c3
  obtain ⟨m0, m1, m2, _, _, _⟩ := three hM2
  obtain ⟨t0, t1, t2, t3, _, _, _, _⟩ := four hX2
  clear hX2 hM2
  go_wp2_with fail
  go_loopw [8, 9] (fun q i' wr => ∃ i : Nat, i ≤ (M.p k).n ∧ i' = .int .i64 i ∧ q = .int .i64 (delsF M (M.p k).f i) ∧ slotsOkB M k (M.p k).e (M.p k).f i = true ∧ Below W2.heap.size W2 wr) (fun _ i' _ => (M.p k).n - (intOf i').toNat)
  case atStart => exact ⟨0, Nat.zero_le _, rfl, rfl, rfl, Below.refl _ _⟩
  case round =>
    obtain ⟨i, hi, rfl, rfl, hok, hbr⟩ := hrel
    clear m0 m1 m2 t0 t1 t2 t3
    obtain ⟨t0, t1, t2, t3, _, _, _, _⟩ := four (b_block hbr HXB.out lX)
    by_cases hlt : i < (M.p k).n
    · have hdl := dels_le M (M.p k).f i
      rcases HR2.out with ⟨h0, _⟩ | ⟨sb, so, scap, ev, hsb, hsc⟩
      · omega
      injection ev with ev1 ev2 ev3
      subst ev1 ev3
      obtain ⟨s0, s1⟩ := hsc i hlt
      replace s0 := (hbr.cell (p := ⟨sb, so + i * 2, none⟩) hsb).trans s0
      replace s1 := (hbr.cell (p := ⟨sb, so + i * 2 + 1, none⟩) hsb).trans s1
      have i1 : (i : Int) < ((M.p k).n : Int) := by omega
      have i0 : (0 : Int) ≤ (i : Int) := by omega
      obtain ⟨id, hid⟩ : ∃ id : Int, id = ((M.p k).f i).1 := ⟨_, rfl⟩
      obtain ⟨ky, hky⟩ : ∃ ky : Int, ky = ((M.p k).f i).2 := ⟨_, rfl⟩
      rw [← hid] at s0
      rw [← hky] at s1
      have sb0 := s0
      have hbS := b_alloc1 (o := .cells #[.int .i64 id, .int .i64 ky] 133) hbr
      have hSv := heap_alloc_new wr (.cells #[.int .i64 id, .int .i64 ky] 133)
      have hMs := b_block hbS HMB.out lM
      have hXs := b_block hbS HXB.out lX
      have lS := lt_of_block hSv
      have lM2 := lt_of_block hMs
      have HHas := Lib.hid (fun (W : World) (_ : Below (wr.alloc (.cells #[.int .i64 id, .int .i64 ky] 133)).heap.size (wr.alloc (.cells #[.int .i64 id, .int .i64 ky] 133)) W) => l5Has_any (M := M) (tv := .slice ta M.tn tc) (pv := .slice (some ⟨pb, po, none⟩) M.pn qc) ⟨_, _, rfl⟩ htn id W)
      have kd := (Below.refl (wr.alloc (.cells #[.int .i64 id, .int .i64 ky] 133)).heap.size (wr.alloc (.cells #[.int .i64 id, .int .i64 ky] 133))).drew
      have HOK := Lib.hid hok
      have HID := Lib.hid hid
      have HKY := Lib.hid hky
      clear hok hid hky hsc
      cases hh : hasT M id
      · have hbad : slotsOkB M k (M.p k).e (M.p k).f (M.p k).n = false := slotsOk_bad (i := i) (by unfold slotOkB; rw [← HID.out, hh]; simp) _ hlt
        have HBAD := Lib.hid hbad
        have HH := Lib.hid hh
        clear hh hbad
        obtain ⟨C, hC⟩ : ∃ C : World → Prop, ∀ w', C w' ↔ (w'.cell? ⟨w.heap.size + 1, 0, none⟩ = some (.int .i64 M.c) ∧ w'.cell? ⟨w.heap.size + 1, 1, none⟩ = some (.slice ta M.tn tc) ∧ w'.cell? ⟨w.heap.size + 1, 2, none⟩ = some (.slice (some ⟨pb, po, none⟩) M.pn qc) ∧ w'.cell? ⟨wr.heap.size, 0, none⟩ = some (.int .i64 id) ∧ w'.cell? ⟨wr.heap.size, 1, none⟩ = some (.int .i64 ky) ∧ Below (wr.alloc (.cells #[.int .i64 id, .int .i64 ky] 133)).heap.size (wr.alloc (.cells #[.int .i64 id, .int .i64 ky] 133)) w') := ⟨_, fun _ => Iff.rfl⟩
        have hCin : ∀ w', Below (wr.alloc (.cells #[.int .i64 id, .int .i64 ky] 133)).heap.size (wr.alloc (.cells #[.int .i64 id, .int .i64 ky] 133)) w' → C w' := fun w' kd => (hC w').2 ⟨(kd.cell (p := ⟨w.heap.size + 1, 0, none⟩) lM2).trans (cell_of_block hMs 0), (kd.cell (p := ⟨w.heap.size + 1, 1, none⟩) lM2).trans (cell_of_block hMs 1), (kd.cell (p := ⟨w.heap.size + 1, 2, none⟩) lM2).trans (cell_of_block hMs 2), (kd.cell (p := ⟨wr.heap.size, 0, none⟩) lS).trans (cell_of_block hSv 0), (kd.cell (p := ⟨wr.heap.size, 1, none⟩) lS).trans (cell_of_block hSv 1), kd⟩
        have HCin := Lib.hid hCin
        have HC := Lib.hid hC
        have HCall := Lib.hid (show ∀ w', C w' → Calls Tryz.prog 65 #[meV M.c (.slice ta M.tn tc) (.slice (some ⟨pb, po, none⟩) M.pn qc), .int .i64 id] w' (fun e w'' => e = .returned (.bool false) ∧ C w'') from fun w' hw' => (HHas.out w' ((HC.out w').1 hw').2.2.2.2.2).mono (fun e w'' hx => ⟨hx.1.trans (by rw [HH.out]), HCin.out _ (((HC.out w').1 hw').2.2.2.2.2.trans (hx.2.mono ((HC.out w').1 hw').2.2.2.2.2.size))⟩))
        clear hC hCin
        go_wp2_with fail
        refine region_quietC (C := C) (by kernel_rfl) (by kernel_rfl) (HCin.out _ (Below.refl _ _).drew) ?_
        repeat (first
          | go_big_quiet_skip
          | (go_big_quiet_want; go_big_quiet_op; go_big_quiet_on)
          | (refine quiet_take (v := ?_) (by rfl) ?_ ?_
             rotate_left
             · intro w' hw'
               obtain ⟨q0, q1, q2, q3, q4, hbel⟩ := (HC.out w').1 hw'
               go_simp
               first
                 | done
                 | exact rfl
                 | exact HCall.out w' hw'
             simp only [Act.put, List.setIfInBounds_toArray, List.set_cons_zero, List.set_cons_succ]))
        refine wpQuiet_nil ?_
        intro wq hwq
        obtain ⟨q0, q1, q2, q3, q4, kd⟩ := (HC.out wq).1 hwq
        clear HHas
        go_wp2
        go_ret
        exact ⟨ret_bool' (by rw [HBAD.out]; rfl), kr.trans ((hbS.trans (kd.mono hbS.size)).mono kr.size)⟩
      obtain ⟨g0, g1⟩ := hasT_iff.1 hh
      rcases HT2.out with ⟨h0, _⟩ | ⟨tb, tof, tcap, ev, htb, htc⟩
      · omega
      injection ev with ev1 ev2 ev3
      subst ev1 ev3
      obtain ⟨j, rfl⟩ : ∃ j : Nat, id = (j : Int) := ⟨id.toNat, by omega⟩
      have hj : j < M.tn := by omega
      have ht := htc j hj
      have htw : ∀ W : World, Below (wr.alloc (.cells #[.int .i64 (j : Int), .int .i64 ky] 133)).heap.size (wr.alloc (.cells #[.int .i64 (j : Int), .int .i64 ky] 133)) W → ∀ q, q < 8 → W.cell? ⟨tb, tof + j * 8 + q, none⟩ = some (.int .i64 (tmAt (M.t j) q)) := fun W hW q hq => (hW.cell (p := ⟨tb, tof + j * 8 + q, none⟩) (Nat.lt_of_lt_of_le htb hbS.size)).trans ((hbS.cell (p := ⟨tb, tof + j * 8 + q, none⟩) htb).trans (ht q hq))
      have HTW := Lib.hid htw
      have HH := Lib.hid hh
      have hjn : (((M.p k).f i).1).toNat = j := by rw [← HID.out]; simp
      clear ht htw htc hh
      have ij0 : (0 : Int) ≤ (j : Int) := by omega
      have ij1 : (j : Int) < (M.tn : Int) := by omega
      by_cases hpl2 : (M.t j).pl = (k : Int)
      · have HPL := Lib.hid hpl2
        by_cases hwh : (M.t j).wh = ky
        · have HWH := Lib.hid hwh
          have HC4 := Lib.hid (show ∀ W : World, Below (wr.alloc (.cells #[.int .i64 (j : Int), .int .i64 ky] 133)).heap.size (wr.alloc (.cells #[.int .i64 (j : Int), .int .i64 ky] 133)) W → W.cell? ⟨tb, tof + j * 8 + 4, none⟩ = some (.int .i64 (k : Int)) from fun W hW => (HTW.out W hW 4 (by decide)).trans (by rw [← hpl2]; rfl))
          have HC1 := Lib.hid (show ∀ W : World, Below (wr.alloc (.cells #[.int .i64 (j : Int), .int .i64 ky] 133)).heap.size (wr.alloc (.cells #[.int .i64 (j : Int), .int .i64 ky] 133)) W → W.cell? ⟨tb, tof + j * 8 + 1, none⟩ = some (.int .i64 ky) from fun W hW => (HTW.out W hW 1 (by decide)).trans (by rw [← hwh]; rfl))
          clear hpl2 hwh
          obtain ⟨C, hC⟩ : ∃ C : World → Prop, ∀ w', C w' ↔ (w'.cell? ⟨w.heap.size + 1, 0, none⟩ = some (.int .i64 M.c) ∧ w'.cell? ⟨w.heap.size + 1, 1, none⟩ = some (.slice (some ⟨tb, tof, none⟩) M.tn tc) ∧ w'.cell? ⟨w.heap.size + 1, 2, none⟩ = some (.slice (some ⟨pb, po, none⟩) M.pn qc) ∧ w'.cell? ⟨wr.heap.size, 0, none⟩ = some (.int .i64 (j : Int)) ∧ w'.cell? ⟨wr.heap.size, 1, none⟩ = some (.int .i64 ky) ∧ w'.cell? ⟨tb, tof + j * 8 + 4, none⟩ = some (.int .i64 (k : Int)) ∧ w'.cell? ⟨tb, tof + j * 8 + 1, none⟩ = some (.int .i64 ky) ∧ Below (wr.alloc (.cells #[.int .i64 (j : Int), .int .i64 ky] 133)).heap.size (wr.alloc (.cells #[.int .i64 (j : Int), .int .i64 ky] 133)) w') := ⟨_, fun _ => Iff.rfl⟩
          have hCin : ∀ w', Below (wr.alloc (.cells #[.int .i64 (j : Int), .int .i64 ky] 133)).heap.size (wr.alloc (.cells #[.int .i64 (j : Int), .int .i64 ky] 133)) w' → C w' := fun w' kd => (hC w').2 ⟨(kd.cell (p := ⟨w.heap.size + 1, 0, none⟩) lM2).trans (cell_of_block hMs 0), (kd.cell (p := ⟨w.heap.size + 1, 1, none⟩) lM2).trans (cell_of_block hMs 1), (kd.cell (p := ⟨w.heap.size + 1, 2, none⟩) lM2).trans (cell_of_block hMs 2), (kd.cell (p := ⟨wr.heap.size, 0, none⟩) lS).trans (cell_of_block hSv 0), (kd.cell (p := ⟨wr.heap.size, 1, none⟩) lS).trans (cell_of_block hSv 1), HC4.out _ kd, HC1.out _ kd, kd⟩
          have HCin := Lib.hid hCin
          have HC := Lib.hid hC
          have HCall := Lib.hid (show ∀ w', C w' → Calls Tryz.prog 65 #[meV M.c (.slice (some ⟨tb, tof, none⟩) M.tn tc) (.slice (some ⟨pb, po, none⟩) M.pn qc), .int .i64 (j : Int)] w' (fun e w'' => e = .returned (.bool true) ∧ C w'') from fun w' hw' => (HHas.out w' ((HC.out w').1 hw').2.2.2.2.2.2.2).mono (fun e w'' hx => ⟨hx.1.trans (by rw [HH.out]), HCin.out _ (((HC.out w').1 hw').2.2.2.2.2.2.2.trans (hx.2.mono ((HC.out w').1 hw').2.2.2.2.2.2.2.size))⟩))
          clear hC hCin
          go_wp2_with fail
          refine region_quietC (C := C) (by kernel_rfl) (by kernel_rfl) (HCin.out _ (Below.refl _ _).drew) ?_
          repeat (first
            | go_big_quiet_skip
            | (go_big_quiet_want; go_big_quiet_op; go_big_quiet_on)
            | (refine quiet_take (v := ?_) (by rfl) ?_ ?_
               rotate_left
               · intro w' hw'
                 obtain ⟨q0, q1, q2, q3, q4, q5, q6, hbel⟩ := (HC.out w').1 hw'
                 go_simp
                 first
                   | done
                   | exact rfl
                   | exact HCall.out w' hw'
               simp only [Act.put, List.setIfInBounds_toArray, List.set_cons_zero, List.set_cons_succ]))
          refine wpQuiet_nil ?_
          intro wq hwq
          obtain ⟨q0, q1, q2, q3, q4, q5, q6, kd⟩ := (HC.out wq).1 hwq
          have hXq := b_block kd hXs (lt_of_block hXs)
          obtain ⟨x0, x1, x2, x3, _, _, _, _⟩ := four hXq
          obtain ⟨_, _, xa2, _, _, _, _, _⟩ := four (alloc_block (.cells (tmCells (M.t j)) 90) hXq)
          obtain ⟨d0, d1, d2, d3, d4, d5, d6, d7⟩ := cells8 (w := wq) (b := tb) (o := tof + j * 8) (t := M.t j) (fun q hq => HTW.out wq kd q hq)
          have hbT : Below W2.heap.size W2 (wq.alloc (.cells (tmCells (M.t j)) 90)) := b_alloc1 (hbS.trans (kd.mono hbS.size))
          clear q5 q6 HHas HC4 HC1 HCall HC HCin hwq kd hXq hXs hMs hSv hbS hbr
          by_cases h5 : (M.t j).st = 5
          · have b5 : ((M.t j).st == 5) = true := by simpa using h5
            have b3 : ((M.t j).st == 3) = false := by rw [h5]; decide
            have HOKN := Lib.hid (show slotsOkB M k (M.p k).e (M.p k).f (i + 1) = true by
              rw [slotsOkB, HOK.out]; unfold slotOkB earlyOkB; rw [← HID.out, HH.out, ← HKY.out]; simp only [Int.toNat_natCast]; rw [HPL.out, HWH.out, b3]; simp)
            have HDEL := Lib.hid (show delsF M (M.p k).f i + 1 = delsF M (M.p k).f (i + 1) by rw [delsF, hjn, if_pos h5])
            clear h5
            go_wp2
            exact ⟨⟨i + 1, by omega, by go_num, congrArg (Value.int .i64) HDEL.out, HOKN.out, hbT⟩, by simp only [intOf]; omega⟩
          have b5 : ((M.t j).st == 5) = false := beq_eq_false_iff_ne.2 h5
          have HDEL := Lib.hid (show delsF M (M.p k).f i = delsF M (M.p k).f (i + 1) by rw [delsF, hjn, if_neg h5]; simp)
          by_cases h3 : (M.t j).st = 3
          · have b3 : ((M.t j).st == 3) = true := by simpa using h3
            clear h3 h5
            by_cases he : (M.p k).e < 0
            · have be : decide ((M.p k).e < 0) = true := by simpa using he
              have HBAD := Lib.hid (show slotsOkB M k (M.p k).e (M.p k).f (M.p k).n = false from slotsOk_bad (i := i) (by unfold earlyOkB; rw [← HID.out]; simp only [Int.toNat_natCast]; rw [b3, be]; simp) _ hlt)
              go_wp2
              go_ret
              exact ⟨ret_bool' (by rw [HBAD.out]; rfl), kr.trans (hbT.mono kr.size)⟩
            · have be : decide ((M.p k).e < 0) = false := by simpa using he
              by_cases hx : (M.t j).nx < (M.p k).e
              · have bx : decide ((M.t j).nx < (M.p k).e) = true := by simpa using hx
                have HBAD := Lib.hid (show slotsOkB M k (M.p k).e (M.p k).f (M.p k).n = false from slotsOk_bad (i := i) (by unfold earlyOkB; rw [← HID.out]; simp only [Int.toNat_natCast]; rw [b3, be, bx]; simp) _ hlt)
                go_wp2
                go_ret
                exact ⟨ret_bool' (by rw [HBAD.out]; rfl), kr.trans (hbT.mono kr.size)⟩
              · have bx : decide ((M.t j).nx < (M.p k).e) = false := by simpa using hx
                have HOKN := Lib.hid (show slotsOkB M k (M.p k).e (M.p k).f (i + 1) = true by
                  rw [slotsOkB, HOK.out]; unfold slotOkB earlyOkB; rw [← HID.out, HH.out, ← HKY.out]; simp only [Int.toNat_natCast]; rw [HPL.out, HWH.out, b3, be, bx]; simp)
                go_wp2
                exact ⟨⟨i + 1, by omega, by go_num, congrArg (Value.int .i64) HDEL.out, HOKN.out, hbT⟩, by simp only [intOf]; omega⟩
          · have b3 : ((M.t j).st == 3) = false := beq_eq_false_iff_ne.2 h3
            have HOKN := Lib.hid (show slotsOkB M k (M.p k).e (M.p k).f (i + 1) = true by
              rw [slotsOkB, HOK.out]; unfold slotOkB earlyOkB; rw [← HID.out, HH.out, ← HKY.out]; simp only [Int.toNat_natCast]; rw [HPL.out, HWH.out, b3]; simp)
            clear h3 h5
            go_wp2
            exact ⟨⟨i + 1, by omega, by go_num, congrArg (Value.int .i64) HDEL.out, HOKN.out, hbT⟩, by simp only [intOf]; omega⟩
        · have hwq : ((M.t j).wh == ky) = false := beq_eq_false_iff_ne.2 hwh
          have HC4 := Lib.hid (show ∀ W : World, Below (wr.alloc (.cells #[.int .i64 (j : Int), .int .i64 ky] 133)).heap.size (wr.alloc (.cells #[.int .i64 (j : Int), .int .i64 ky] 133)) W → W.cell? ⟨tb, tof + j * 8 + 4, none⟩ = some (.int .i64 (k : Int)) from fun W hW => (HTW.out W hW 4 (by decide)).trans (by rw [← hpl2]; rfl))
          have HC1 := Lib.hid (show ∀ W : World, Below (wr.alloc (.cells #[.int .i64 (j : Int), .int .i64 ky] 133)).heap.size (wr.alloc (.cells #[.int .i64 (j : Int), .int .i64 ky] 133)) W → W.cell? ⟨tb, tof + j * 8 + 1, none⟩ = some (.int .i64 (M.t j).wh) from fun W hW => (HTW.out W hW 1 (by decide)).trans (by rfl))
          have HBAD := Lib.hid (show slotsOkB M k (M.p k).e (M.p k).f (M.p k).n = false from slotsOk_bad (i := i) (by unfold slotOkB; rw [← HID.out, ← HKY.out]; simp only [Int.toNat_natCast]; rw [hwq]; simp) _ hlt)
          clear hpl2 hwh
          obtain ⟨C, hC⟩ : ∃ C : World → Prop, ∀ w', C w' ↔ (w'.cell? ⟨w.heap.size + 1, 0, none⟩ = some (.int .i64 M.c) ∧ w'.cell? ⟨w.heap.size + 1, 1, none⟩ = some (.slice (some ⟨tb, tof, none⟩) M.tn tc) ∧ w'.cell? ⟨w.heap.size + 1, 2, none⟩ = some (.slice (some ⟨pb, po, none⟩) M.pn qc) ∧ w'.cell? ⟨wr.heap.size, 0, none⟩ = some (.int .i64 (j : Int)) ∧ w'.cell? ⟨wr.heap.size, 1, none⟩ = some (.int .i64 ky) ∧ w'.cell? ⟨tb, tof + j * 8 + 4, none⟩ = some (.int .i64 (k : Int)) ∧ w'.cell? ⟨tb, tof + j * 8 + 1, none⟩ = some (.int .i64 (M.t j).wh) ∧ Below (wr.alloc (.cells #[.int .i64 (j : Int), .int .i64 ky] 133)).heap.size (wr.alloc (.cells #[.int .i64 (j : Int), .int .i64 ky] 133)) w') := ⟨_, fun _ => Iff.rfl⟩
          have hCin : ∀ w', Below (wr.alloc (.cells #[.int .i64 (j : Int), .int .i64 ky] 133)).heap.size (wr.alloc (.cells #[.int .i64 (j : Int), .int .i64 ky] 133)) w' → C w' := fun w' kd => (hC w').2 ⟨(kd.cell (p := ⟨w.heap.size + 1, 0, none⟩) lM2).trans (cell_of_block hMs 0), (kd.cell (p := ⟨w.heap.size + 1, 1, none⟩) lM2).trans (cell_of_block hMs 1), (kd.cell (p := ⟨w.heap.size + 1, 2, none⟩) lM2).trans (cell_of_block hMs 2), (kd.cell (p := ⟨wr.heap.size, 0, none⟩) lS).trans (cell_of_block hSv 0), (kd.cell (p := ⟨wr.heap.size, 1, none⟩) lS).trans (cell_of_block hSv 1), HC4.out _ kd, HC1.out _ kd, kd⟩
          have HCin := Lib.hid hCin
          have HC := Lib.hid hC
          have HCall := Lib.hid (show ∀ w', C w' → Calls Tryz.prog 65 #[meV M.c (.slice (some ⟨tb, tof, none⟩) M.tn tc) (.slice (some ⟨pb, po, none⟩) M.pn qc), .int .i64 (j : Int)] w' (fun e w'' => e = .returned (.bool true) ∧ C w'') from fun w' hw' => (HHas.out w' ((HC.out w').1 hw').2.2.2.2.2.2.2).mono (fun e w'' hx => ⟨hx.1.trans (by rw [HH.out]), HCin.out _ (((HC.out w').1 hw').2.2.2.2.2.2.2.trans (hx.2.mono ((HC.out w').1 hw').2.2.2.2.2.2.2.size))⟩))
          clear hC hCin
          go_wp2_with fail
          refine region_quietC (C := C) (by kernel_rfl) (by kernel_rfl) (HCin.out _ (Below.refl _ _).drew) ?_
          repeat (first
            | go_big_quiet_skip
            | (go_big_quiet_want; go_big_quiet_op; go_big_quiet_on)
            | (refine quiet_take (v := ?_) (by rfl) ?_ ?_
               rotate_left
               · intro w' hw'
                 obtain ⟨q0, q1, q2, q3, q4, q5, q6, hbel⟩ := (HC.out w').1 hw'
                 go_simp
                 first
                   | done
                   | exact rfl
                   | exact HCall.out w' hw'
               simp only [Act.put, List.setIfInBounds_toArray, List.set_cons_zero, List.set_cons_succ]))
          refine wpQuiet_nil ?_
          intro wq hwq
          obtain ⟨q0, q1, q2, q3, q4, q5, q6, kd⟩ := (HC.out wq).1 hwq
          clear HHas
          go_wp2
          go_ret
          exact ⟨ret_bool' (by rw [HBAD.out]; rfl), kr.trans ((hbS.trans (kd.mono hbS.size)).mono kr.size)⟩
      · have hpq : ((M.t j).pl == (k : Int)) = false := beq_eq_false_iff_ne.2 hpl2
        have hpq2 : ((M.t j).pl != (k : Int)) = true := by rw [bne, hpq]; rfl
        have HC4 := Lib.hid (show ∀ W : World, Below (wr.alloc (.cells #[.int .i64 (j : Int), .int .i64 ky] 133)).heap.size (wr.alloc (.cells #[.int .i64 (j : Int), .int .i64 ky] 133)) W → W.cell? ⟨tb, tof + j * 8 + 4, none⟩ = some (.int .i64 (M.t j).pl) from fun W hW => (HTW.out W hW 4 (by decide)).trans (by rfl))
        have HC1 := Lib.hid (show ∀ W : World, Below (wr.alloc (.cells #[.int .i64 (j : Int), .int .i64 ky] 133)).heap.size (wr.alloc (.cells #[.int .i64 (j : Int), .int .i64 ky] 133)) W → W.cell? ⟨tb, tof + j * 8 + 1, none⟩ = some (.int .i64 (M.t j).wh) from fun W hW => (HTW.out W hW 1 (by decide)).trans (by rfl))
        have HBAD := Lib.hid (show slotsOkB M k (M.p k).e (M.p k).f (M.p k).n = false from slotsOk_bad (i := i) (by unfold slotOkB; rw [← HID.out]; simp only [Int.toNat_natCast]; rw [hpq]; simp) _ hlt)
        clear hpl2
        obtain ⟨C, hC⟩ : ∃ C : World → Prop, ∀ w', C w' ↔ (w'.cell? ⟨w.heap.size + 1, 0, none⟩ = some (.int .i64 M.c) ∧ w'.cell? ⟨w.heap.size + 1, 1, none⟩ = some (.slice (some ⟨tb, tof, none⟩) M.tn tc) ∧ w'.cell? ⟨w.heap.size + 1, 2, none⟩ = some (.slice (some ⟨pb, po, none⟩) M.pn qc) ∧ w'.cell? ⟨wr.heap.size, 0, none⟩ = some (.int .i64 (j : Int)) ∧ w'.cell? ⟨wr.heap.size, 1, none⟩ = some (.int .i64 ky) ∧ w'.cell? ⟨tb, tof + j * 8 + 4, none⟩ = some (.int .i64 (M.t j).pl) ∧ w'.cell? ⟨tb, tof + j * 8 + 1, none⟩ = some (.int .i64 (M.t j).wh) ∧ Below (wr.alloc (.cells #[.int .i64 (j : Int), .int .i64 ky] 133)).heap.size (wr.alloc (.cells #[.int .i64 (j : Int), .int .i64 ky] 133)) w') := ⟨_, fun _ => Iff.rfl⟩
        have hCin : ∀ w', Below (wr.alloc (.cells #[.int .i64 (j : Int), .int .i64 ky] 133)).heap.size (wr.alloc (.cells #[.int .i64 (j : Int), .int .i64 ky] 133)) w' → C w' := fun w' kd => (hC w').2 ⟨(kd.cell (p := ⟨w.heap.size + 1, 0, none⟩) lM2).trans (cell_of_block hMs 0), (kd.cell (p := ⟨w.heap.size + 1, 1, none⟩) lM2).trans (cell_of_block hMs 1), (kd.cell (p := ⟨w.heap.size + 1, 2, none⟩) lM2).trans (cell_of_block hMs 2), (kd.cell (p := ⟨wr.heap.size, 0, none⟩) lS).trans (cell_of_block hSv 0), (kd.cell (p := ⟨wr.heap.size, 1, none⟩) lS).trans (cell_of_block hSv 1), HC4.out _ kd, HC1.out _ kd, kd⟩
        have HCin := Lib.hid hCin
        have HC := Lib.hid hC
        have HCall := Lib.hid (show ∀ w', C w' → Calls Tryz.prog 65 #[meV M.c (.slice (some ⟨tb, tof, none⟩) M.tn tc) (.slice (some ⟨pb, po, none⟩) M.pn qc), .int .i64 (j : Int)] w' (fun e w'' => e = .returned (.bool true) ∧ C w'') from fun w' hw' => (HHas.out w' ((HC.out w').1 hw').2.2.2.2.2.2.2).mono (fun e w'' hx => ⟨hx.1.trans (by rw [HH.out]), HCin.out _ (((HC.out w').1 hw').2.2.2.2.2.2.2.trans (hx.2.mono ((HC.out w').1 hw').2.2.2.2.2.2.2.size))⟩))
        clear hC hCin
        go_wp2_with fail
        refine region_quietC (C := C) (by kernel_rfl) (by kernel_rfl) (HCin.out _ (Below.refl _ _).drew) ?_
        repeat (first
          | go_big_quiet_skip
          | (go_big_quiet_want; go_big_quiet_op; go_big_quiet_on)
          | (refine quiet_take (v := ?_) (by rfl) ?_ ?_
             rotate_left
             · intro w' hw'
               obtain ⟨q0, q1, q2, q3, q4, q5, q6, hbel⟩ := (HC.out w').1 hw'
               go_simp
               first
                 | done
                 | exact rfl
                 | exact HCall.out w' hw'
             simp only [Act.put, List.setIfInBounds_toArray, List.set_cons_zero, List.set_cons_succ]))
        refine wpQuiet_nil ?_
        intro wq hwq
        obtain ⟨q0, q1, q2, q3, q4, q5, q6, kd⟩ := (HC.out wq).1 hwq
        clear HHas
        go_wp2
        go_ret
        exact ⟨ret_bool' (by rw [HBAD.out]; rfl), kr.trans ((hbS.trans (kd.mono hbS.size)).mono kr.size)⟩
    · have hin : i = (M.p k).n := by omega
      have HOK := Lib.hid hok
      have HIN := Lib.hid hin
      have hlt2 : ¬ (i : Int) < ((M.p k).n : Int) := by omega
      clear hok hin
      go_wp2
      go_ret
      exact ⟨ret_bool' (by rw [← HIN.out, HOK.out, Bool.true_and]), kr.trans (hbr.mono kr.size)⟩

end Go.Proofs.YtflekodaiejflaaGreat
