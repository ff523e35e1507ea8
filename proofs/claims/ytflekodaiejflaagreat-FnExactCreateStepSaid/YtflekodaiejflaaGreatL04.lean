/-
  Memories (spec, chapter 5): is a memory right?
-/
import Derived.Test.YtflekodaiejflaaGreatL03
import Derived.Test.YtflekodaiejflaaGreatL01
import Derived.Test.YtflekodaiejflaaGreatL00
import Derived.Test.YtflekodaiejflaaGreatL02
namespace Go.Proofs.YtflekodaiejflaaGreat
open Go.RowKit Go.Joins
set_option linter.unusedVariables false
set_option linter.unusedSimpArgs false

def allB (g : Nat → Bool) : Nat → Bool
  | 0 => true
  | k + 1 => allB g k && g k
theorem allB_bad {g : Nat → Bool} {i : Nat} (h : g i = false) : ∀ n, i < n → allB g n = false
  | 0, hn => absurd hn (Nat.not_lt_zero _)
  | n + 1, hn => by
    rw [allB]
    by_cases e : i = n
    · subst e; rw [h, Bool.and_false]
    · rw [allB_bad h n (by omega), Bool.false_and]
theorem allB_at {g : Nat → Bool} : ∀ {n : Nat}, allB g n = true → ∀ i, i < n → g i = true
  | 0, _, i, hi => absurd hi (Nat.not_lt_zero _)
  | n + 1, h, i, hi => by
    rw [allB, Bool.and_eq_true] at h
    by_cases e : i = n
    · subst e; exact h.2
    · exact allB_at h.1 i (by omega)
/-- does the timer stand where it says? -/
def fitB (a b c : Int) (M : Me) (i : Nat) : Bool :=
  timerB a b c (M.t i) && ((M.t i).pl == -1 || !decide (findFrom (M.p (M.t i).pl.toNat).f (M.p (M.t i).pl.toNat).n (i : Int) 0 < 0))
/-- is the memory right? -/
def memOkB (a b c : Int) (M : Me) : Bool :=
  planB a b c && (inB M.c 0 999999999 && (!decide (c < (M.tn : Int)) && ((M.pn : Int) == a && (allB (agreeB a b c M) M.pn && allB (fitB a b c M) M.tn))))
theorem timerB_pl {a b c : Int} {t : Tm} (h : timerB a b c t = true) : t.pl = -1 ∨ 0 ≤ t.pl ∧ t.pl < a := by
  simp only [timerB, placeB, Bool.and_eq_true] at h
  have hp := h.2.2.2.2.2.2.2.2.1
  split at hp
  · have := (procB_iff.1 hp).2; exact .inr (by omega)
  · rw [Bool.or_eq_true, Bool.and_eq_true] at hp
    rcases hp with hp | ⟨_, hp⟩
    · exact .inl (by simpa using hp)
    · have := (procB_iff.1 hp).2; exact .inr (by omega)

theorem tm_cells {w : World} {b : Nat} {t : Tm} {ty : TypeId} (h : w.heap[b]? = some (.cells (tmCells t) ty (0, 0))) :
    w.cell? ⟨b, 0, none⟩ = some (.int .i64 t.st) ∧ w.cell? ⟨b, 1, none⟩ = some (.int .i64 t.wh) ∧ w.cell? ⟨b, 2, none⟩ = some (.int .i64 t.nx) ∧ w.cell? ⟨b, 3, none⟩ = some (.int .i64 t.pe) ∧ w.cell? ⟨b, 4, none⟩ = some (.int .i64 t.pl) ∧ w.cell? ⟨b, 5, none⟩ = some (.int .i64 t.ge) ∧ w.cell? ⟨b, 6, none⟩ = some (.int .i64 t.ki) ∧ w.cell? ⟨b, 7, none⟩ = some (.int .i64 t.ma) :=
  ⟨cell_of_block h 0, cell_of_block h 1, cell_of_block h 2, cell_of_block h 3, cell_of_block h 4, cell_of_block h 5, cell_of_block h 6, cell_of_block h 7⟩

set_option maxRecDepth 100000 in
set_option maxHeartbeats 8000000 in
theorem spMemOk_any (a b c : Int) {tv pv : Value} {M : Me} {w : World} (hs : sizeM M ≤ 1048576) (h : MemAt w tv pv M) :
    Calls Tryz.prog 62 #[.agg #[.int .i64 a, .int .i64 b, .int .i64 c], meV M.c tv pv] w fun e w' => e = .returned (.bool (memOkB a b c M)) ∧ Below w.heap.size w w' := by
  obtain ⟨htn, hpn, hsl, hns⟩ := sizeM_le hs
  obtain ⟨ta, tc, qa, qc, rfl, rfl⟩ := h.form
  have k0 := (Below.refl w.heap.size w).alloc (Nat.le_refl _) (.cells #[.int .i64 a, .int .i64 b, .int .i64 c] 46)
  have e0 : (w.alloc (.cells #[.int .i64 a, .int .i64 b, .int .i64 c] 46)).heap.size = w.heap.size + 1 := by simp
  have k1 := k0.alloc (by omega) (memO M.c (.slice ta M.tn tc) (.slice qa M.pn qc) 36)
  have hPv := alloc_block (memO M.c (.slice ta M.tn tc) (.slice qa M.pn qc) 36) (heap_alloc_new w (.cells #[.int .i64 a, .int .i64 b, .int .i64 c] 46))
  have hMv := heap_alloc_new (w.alloc (.cells #[.int .i64 a, .int .i64 b, .int .i64 c] 46)) (memO M.c (.slice ta M.tn tc) (.slice qa M.pn qc) 36)
  rw [e0] at hMv
  have HM := Lib.hid h
  have HS := Lib.hid hs
  clear h k0 e0 hsl hns hs
  cases hp : planB a b c
  · rw [show memOkB a b c M = false by unfold memOkB; rw [hp, Bool.false_and]]
    have HP := Lib.hid hp
    clear hp
    go_enter Tryz.func62, Tryz.ntmps62
    go_wp2_with fail
    go_at_call 86; refine (spPlanOk_any _ _ _ _).mono ?_; rw [HP.out]; rintro x w1 ⟨rfl, hb⟩
    go_wp2
    go_ret
    exact ⟨rfl, k1.trans (hb.mono k1.size)⟩
  have HP := Lib.hid hp
  cases hc : inB M.c 0 999999999
  · rw [show memOkB a b c M = false by unfold memOkB; rw [hc, Bool.false_and, Bool.and_false]]
    have HC := Lib.hid hc
    clear hp hc
    go_enter Tryz.func62, Tryz.ntmps62
    go_wp2_with fail
    go_at_call 86; refine (spPlanOk_any _ _ _ _).mono ?_; rw [HP.out]; rintro x w1 ⟨rfl, hb⟩
    have hM1 := b_block hb hMv (lt_of_block hMv)
    obtain ⟨m0, m1, m2, _, _, _⟩ := three hM1
    go_wp2_with fail
    go_at_call 34; refine (l1In_any _ _ _ _).mono ?_; rw [HC.out]; rintro x w1 ⟨rfl, rfl⟩
    go_wp2
    go_ret
    exact ⟨rfl, k1.trans (hb.mono k1.size)⟩
  have HC := Lib.hid hc
  by_cases hct : c < (M.tn : Int)
  · rw [show memOkB a b c M = false by unfold memOkB; rw [hp, hc]; simp [hct]]
    have bct : decide (c < (M.tn : Int)) = true := by simpa using hct
    clear hp hc
    go_enter Tryz.func62, Tryz.ntmps62
    go_wp2_with fail
    go_at_call 86; refine (spPlanOk_any _ _ _ _).mono ?_; rw [HP.out]; rintro x w1 ⟨rfl, hb⟩
    have hM1 := b_block hb hMv (lt_of_block hMv)
    obtain ⟨m0, m1, m2, _, _, _⟩ := three hM1
    have hP1 := b_block hb hPv (lt_of_block hPv)
    obtain ⟨p0, p1, p2, _, _, _⟩ := three hP1
    go_wp2_with fail
    go_at_call 34; refine (l1In_any _ _ _ _).mono ?_; rw [HC.out]; rintro x w1 ⟨rfl, rfl⟩
    go_wp2
    go_ret
    exact ⟨rfl, k1.trans (hb.mono k1.size)⟩
  have bct : decide (c < (M.tn : Int)) = false := by simpa using hct
  by_cases hpa : (M.pn : Int) = a
  · have hval : memOkB a b c M = (allB (agreeB a b c M) M.pn && allB (fitB a b c M) M.tn) := by unfold memOkB; rw [hp, hc, bct]; simp [hpa]
    rw [hval]
    clear hp hc hval
    subst hpa
    have bpa : ((M.pn : Int) == (M.pn : Int)) = true := by simp
    go_enter Tryz.func62, Tryz.ntmps62
    go_wp2_with fail
    go_at_call 86; refine (spPlanOk_any _ _ _ _).mono ?_; rw [HP.out]; rintro x W1 ⟨rfl, hb⟩
    have hM1 := b_block hb hMv (lt_of_block hMv)
    have hP1 := b_block hb hPv (lt_of_block hPv)
    have kr := k1.trans (hb.mono k1.size)
    have HM1 := Lib.hid (HM.out.below kr)
    have lM := lt_of_block hM1
    have lP := lt_of_block hP1
    have HMB := Lib.hid hM1
    have HPB := Lib.hid hP1
    clear hb hMv hPv k1
    obtain ⟨m0, m1, m2, _, _, _⟩ := three hM1
    obtain ⟨p0, p1, p2, _, _, _⟩ := three hP1
    clear hM1 hP1
    go_wp2_with fail
    go_at_call 34; refine (l1In_any _ _ _ _).mono ?_; rw [HC.out]; rintro x w1 ⟨rfl, rfl⟩
    go_wp2_with fail
    go_loopw [5] (fun i' wr => ∃ k : Nat, k ≤ M.pn ∧ i' = .int .i64 k ∧ allB (agreeB M.pn b c M) k = true ∧ Below W1.heap.size W1 wr) (fun i' _ => M.pn - (intOf i').toNat)
    case atStart => exact ⟨0, Nat.zero_le _, rfl, rfl, Below.refl _ _⟩
    case round =>
      obtain ⟨k, hk, rfl, hok, hbr⟩ := hrel
      clear m0 m1 m2 p0 p1 p2
      obtain ⟨p0, p1, p2, _, _, _⟩ := three (b_block hbr HPB.out lP)
      obtain ⟨m0, m1, m2, _, _, _⟩ := three (b_block hbr HMB.out lM)
      by_cases hlt : k < M.pn
      · have i1 : (k : Int) < (M.pn : Int) := by omega
        have i0 : (0 : Int) ≤ (k : Int) := by omega
        have HOK := Lib.hid hok
        have CP := l5Proc_any (M.pn : Int) b c (k := k) hlt HS.out (HM1.out.below hbr)
        have HCP := Lib.hid CP
        clear hok CP
        cases hag : agreeB (M.pn : Int) b c M k
        · have HBAD := Lib.hid (show (allB (agreeB M.pn b c M) M.pn && allB (fitB M.pn b c M) M.tn) = false by rw [allB_bad hag _ hlt, Bool.false_and])
          have HAG := Lib.hid hag
          clear hag
          go_wp2_with fail
          go_at_call 87; refine HCP.out.mono ?_; rw [HAG.out]; rintro x w2 ⟨rfl, hb⟩
          go_wp2
          go_ret
          exact ⟨ret_bool' (by rw [HBAD.out]), kr.trans ((hbr.trans (hb.mono hbr.size)).mono kr.size)⟩
        · have HOKN := Lib.hid (show allB (agreeB M.pn b c M) (k + 1) = true by rw [allB, HOK.out, hag]; rfl)
          have HAG := Lib.hid hag
          clear hag
          go_wp2_with fail
          go_at_call 87; refine HCP.out.mono ?_; rw [HAG.out]; rintro x w2 ⟨rfl, hb⟩
          have hbn := hbr.trans (hb.mono hbr.size)
          clear hb
          go_wp2
          exact ⟨⟨k + 1, by omega, by go_num, HOKN.out, hbn⟩, by simp only [intOf]; omega⟩
      · have hkn : k = M.pn := by omega
        subst hkn
        have HALL := Lib.hid hok
        have hge : ¬ ((M.pn : Nat) : Int) < ((M.pn : Nat) : Int) := by omega
        clear hok hlt hk
        go_wp2_with fail
        go_loopw [6] (fun i' ws => ∃ i : Nat, i ≤ M.tn ∧ i' = .int .i64 i ∧ allB (fitB M.pn b c M) i = true ∧ Below W1.heap.size W1 ws) (fun i' _ => M.tn - (intOf i').toNat)
        case atStart => exact ⟨0, Nat.zero_le _, rfl, rfl, hbr⟩
        case round =>
          obtain ⟨i, hi, rfl, hok2, hbq⟩ := hrel
          clear m0 m1 m2 p0 p1 p2
          obtain ⟨m0, m1, m2, _, _, _⟩ := three (b_block hbq HMB.out lM)
          by_cases hlt : i < M.tn
          · have i1 : (i : Int) < (M.tn : Int) := by omega
            have i0 : (0 : Int) ≤ (i : Int) := by omega
            have HOK2 := Lib.hid hok2
            rcases HM1.out.1 with ⟨h0, _⟩ | ⟨tb, tof, tcap, ev, htb, htc⟩
            · omega
            injection ev with ev1 ev2 ev3
            subst ev1 ev3
            obtain ⟨d0, d1, d2, d3, d4, d5, d6, d7⟩ := cells8 (w := _) (b := tb) (o := tof + i * 8) (t := M.t i) (fun q hq => (hbq.cell (p := ⟨tb, tof + i * 8 + q, none⟩) htb).trans (htc i hlt q hq))
            have hTv := heap_alloc_new wr (.cells (tmCells (M.t i)) 90)
            have hbT := b_alloc1 (o := (.cells (tmCells (M.t i)) 90)) hbq
            obtain ⟨p0, p1, p2, _, _, _⟩ := three (b_block hbT HPB.out lP)
            clear hok2 htc m0 m1 m2
            obtain ⟨m0, m1, m2, _, _, _⟩ := three (b_block hbq HMB.out lM)
            cases hf : timerB (M.pn : Int) b c (M.t i)
            · have HF := Lib.hid hf
              have HBAD := Lib.hid (show (allB (agreeB M.pn b c M) M.pn && allB (fitB M.pn b c M) M.tn) = false by rw [allB_bad (i := i) (by unfold fitB; rw [hf, Bool.false_and]) _ hlt, Bool.and_false])
              clear hf
              go_wp2_with fail
              go_at_call 88; refine (spTimerOk_any _ _ _ (M.t i) _).mono ?_; rw [HF.out]; rintro x w2 ⟨rfl, hb⟩
              have hb2 := hbT.trans (hb.mono hbT.size)
              clear m0 m1 m2
              obtain ⟨t0, t1, t2, t3, t4, t5, t6, t7⟩ := tm_cells (t := M.t i) (b_block hb hTv (lt_of_block hTv))
              obtain ⟨m0, m1, m2, _, _, _⟩ := three (b_block hb2 HMB.out lM)
              go_wp2
              go_ret
              exact ⟨ret_bool' (by rw [HBAD.out]), kr.trans (hb2.mono kr.size)⟩
            · have HF := Lib.hid hf
              rcases timerB_pl hf with hpl | ⟨q0, q1⟩
              · have bpl : ((M.t i).pl == -1) = true := by rw [hpl]; decide
                have bpln : ((M.t i).pl != -1) = false := by rw [bne, bpl]; rfl
                have HOKN := Lib.hid (show allB (fitB M.pn b c M) (i + 1) = true by rw [allB, HOK2.out]; unfold fitB; rw [HF.out, bpl]; rfl)
                clear hf hpl
                go_wp2_with fail
                go_at_call 88; refine (spTimerOk_any _ _ _ (M.t i) _).mono ?_; rw [HF.out]; rintro x w2 ⟨rfl, hb⟩
                have hb2 := hbT.trans (hb.mono hbT.size)
                clear m0 m1 m2
                obtain ⟨t0, t1, t2, t3, t4, t5, t6, t7⟩ := tm_cells (t := M.t i) (b_block hb hTv (lt_of_block hTv))
                obtain ⟨m0, m1, m2, _, _, _⟩ := three (b_block hb2 HMB.out lM)
                go_wp2
                exact ⟨⟨i + 1, by omega, by go_num, HOKN.out, hb2⟩, by simp only [intOf]; omega⟩
              · obtain ⟨j, hj⟩ : ∃ j : Nat, (M.t i).pl = (j : Int) := ⟨(M.t i).pl.toNat, by omega⟩
                have hjn : (M.t i).pl.toNat = j := by omega
                have hjl : j < M.pn := by omega
                have ij0 : (0 : Int) ≤ (j : Int) := by omega
                have ij1 : (j : Int) < (M.pn : Int) := by omega
                have bpl : ((j : Int) == -1) = false := beq_eq_false_iff_ne.2 (by omega)
                have bpl2 : ((M.t i).pl == -1) = false := by rw [hj]; exact bpl
                have bpln : ((j : Int) != -1) = true := by rw [bne, bpl]; rfl
                rcases HM1.out.2 with ⟨h0, _⟩ | ⟨pb, po, pcap, ev, hpb, hpc⟩
                · omega
                injection ev with ev1 ev2 ev3
                subst ev1 ev3
                have hns := (sizeM_le HS.out).2.2.2 j hjl
                have HPC := Lib.hid (hpc j hjl)
                have HJN := Lib.hid hjn
                have HJ := Lib.hid hj
                clear hf q0 q1 hpc hjn hj
                by_cases hr : findFrom (M.p j).f (M.p j).n (i : Int) 0 < 0
                · have br : decide (findFrom (M.p j).f (M.p j).n (i : Int) 0 < 0) = true := by simpa using hr
                  have HBAD := Lib.hid (show (allB (agreeB M.pn b c M) M.pn && allB (fitB M.pn b c M) M.tn) = false by rw [allB_bad (i := i) (by unfold fitB; rw [HJN.out, HF.out, bpl2, br]; rfl) _ hlt, Bool.and_false])
                  clear hr bpl2
                  go_wp2_with fail
                  go_at_call 88; refine (spTimerOk_any _ _ _ (M.t i) _).mono ?_; rw [HF.out]; rintro x w2 ⟨rfl, hb⟩
                  have hb2 := hbT.trans (hb.mono hbT.size)
                  clear m0 m1 m2
                  obtain ⟨t0, t1, t2, t3, t4, t5, t6, t7⟩ := tm_cells (t := M.t i) (b_block hb hTv (lt_of_block hTv))
                  obtain ⟨m0, m1, m2, _, _, _⟩ := three (b_block hb2 HMB.out lM)
                  obtain ⟨xa, xc, c0, c1, c2, c3, hrow⟩ := HPC.out.below hpb hb2
                  rw [HJ.out] at t4
                  have HROW := Lib.hid hrow
                  clear hrow
                  go_wp2_with fail
                  go_at_call 89; refine (spFindSlot_any _ _ hns HROW.out).mono ?_; rintro x w3 ⟨rfl, rfl⟩
                  go_wp2
                  go_ret
                  exact ⟨ret_bool' (by rw [HBAD.out]), kr.trans (hb2.mono kr.size)⟩
                · have br : decide (findFrom (M.p j).f (M.p j).n (i : Int) 0 < 0) = false := by simpa using hr
                  have HOKN := Lib.hid (show allB (fitB M.pn b c M) (i + 1) = true by rw [allB, HOK2.out]; unfold fitB; rw [HJN.out, HF.out, bpl2, br]; rfl)
                  clear hr bpl2
                  go_wp2_with fail
                  go_at_call 88; refine (spTimerOk_any _ _ _ (M.t i) _).mono ?_; rw [HF.out]; rintro x w2 ⟨rfl, hb⟩
                  have hb2 := hbT.trans (hb.mono hbT.size)
                  clear m0 m1 m2
                  obtain ⟨t0, t1, t2, t3, t4, t5, t6, t7⟩ := tm_cells (t := M.t i) (b_block hb hTv (lt_of_block hTv))
                  obtain ⟨m0, m1, m2, _, _, _⟩ := three (b_block hb2 HMB.out lM)
                  obtain ⟨xa, xc, c0, c1, c2, c3, hrow⟩ := HPC.out.below hpb hb2
                  rw [HJ.out] at t4
                  have HROW := Lib.hid hrow
                  clear hrow
                  go_wp2_with fail
                  go_at_call 89; refine (spFindSlot_any _ _ hns HROW.out).mono ?_; rintro x w3 ⟨rfl, rfl⟩
                  go_wp2
                  exact ⟨⟨i + 1, by omega, by go_num, HOKN.out, hb2⟩, by simp only [intOf]; omega⟩
          · have hin : i = M.tn := by omega
            have HOK2 := Lib.hid hok2
            have HIN := Lib.hid hin
            have hlt2 : ¬ (i : Int) < (M.tn : Int) := by omega
            clear hok2 hin
            go_wp2
            go_ret
            exact ⟨ret_bool' (by rw [HALL.out, ← HIN.out, HOK2.out]; rfl), kr.trans (hbq.mono kr.size)⟩
  · have bpa : ((M.pn : Int) == a) = false := beq_eq_false_iff_ne.2 hpa
    rw [show memOkB a b c M = false by unfold memOkB; rw [hp, hc, bct, bpa]; simp]
    clear hp hc
    go_enter Tryz.func62, Tryz.ntmps62
    go_wp2_with fail
    go_at_call 86; refine (spPlanOk_any _ _ _ _).mono ?_; rw [HP.out]; rintro x w1 ⟨rfl, hb⟩
    have hM1 := b_block hb hMv (lt_of_block hMv)
    obtain ⟨m0, m1, m2, _, _, _⟩ := three hM1
    have hP1 := b_block hb hPv (lt_of_block hPv)
    obtain ⟨p0, p1, p2, _, _, _⟩ := three hP1
    go_wp2_with fail
    go_at_call 34; refine (l1In_any _ _ _ _).mono ?_; rw [HC.out]; rintro x w1 ⟨rfl, rfl⟩
    go_wp2
    go_ret
    exact ⟨rfl, k1.trans (hb.mono k1.size)⟩

end Go.Proofs.YtflekodaiejflaaGreat

/-
  The same, in the program.
-/
namespace Go.Proofs.YtflekodaiejflaaGreat
open Go.RowKit
set_option linter.unusedVariables false
set_option linter.unusedSimpArgs false

set_option maxHeartbeats 400000 in
theorem within_any (n lo hi : Int) (w : World) :
    Calls Tryz.prog 121 #[.int .i64 n, .int .i64 lo, .int .i64 hi] w fun e w' => e = .returned (.bool (inB n lo hi)) ∧ w = w' := by
  by_cases h1 : lo ≤ n
  · by_cases h2 : n ≤ hi
    · rw [inB_t h1 h2]
      go_enter Tryz.func121, Tryz.ntmps121
      go_wp2
      go_ret
      exact ⟨rfl, rfl⟩
    · rw [inB_hi h2]
      go_enter Tryz.func121, Tryz.ntmps121
      go_wp2
      go_ret
      exact ⟨rfl, rfl⟩
  · rw [inB_lo h1]
    go_enter Tryz.func121, Tryz.ntmps121
    go_wp2
    go_ret
    exact ⟨rfl, rfl⟩

end Go.Proofs.YtflekodaiejflaaGreat

/-
  Plans, times and processors, in the program.
-/
namespace Go.Proofs.YtflekodaiejflaaGreat
open Go.RowKit
set_option linter.unusedVariables false
set_option linter.unusedSimpArgs false

set_option maxHeartbeats 400000 in
theorem right_any (a b c : Int) (w : World) :
    Calls Tryz.prog 117 #[.agg #[.int .i64 a, .int .i64 b, .int .i64 c]] w fun e w' => e = .returned (.bool (planB a b c)) ∧ Below w.heap.size w w' := by
  cases h1 : inB a 1 6
  · have hp : planB a b c = false := by simp [planB, h1]
    rw [hp]
    go_enter Tryz.func117, Tryz.ntmps117
    go_wp2_with (go_at_call 121; refine (within_any _ _ _ _).mono ?_; rintro e w' ⟨rfl, rfl⟩)
    go_ret
    exact ⟨rfl, (Below.refl _ _).alloc (Nat.le_refl _) _⟩
  · cases h2 : inB b 1 8
    · have hp : planB a b c = false := by simp [planB, h1, h2]
      rw [hp]
      go_enter Tryz.func117, Tryz.ntmps117
      go_wp2_with (go_at_call 121; refine (within_any _ _ _ _).mono ?_; rintro e w' ⟨rfl, rfl⟩)
      go_ret
      exact ⟨rfl, (Below.refl _ _).alloc (Nat.le_refl _) _⟩
    · cases h3 : inB c 1 30
      · have hp : planB a b c = false := by simp [planB, h1, h2, h3]
        rw [hp]
        go_enter Tryz.func117, Tryz.ntmps117
        go_wp2_with (go_at_call 121; refine (within_any _ _ _ _).mono ?_; rintro e w' ⟨rfl, rfl⟩)
        go_ret
        exact ⟨rfl, (Below.refl _ _).alloc (Nat.le_refl _) _⟩
      · have hp : planB a b c = true := by simp [planB, h1, h2, h3]
        rw [hp]
        go_enter Tryz.func117, Tryz.ntmps117
        go_wp2_with (go_at_call 121; refine (within_any _ _ _ _).mono ?_; rintro e w' ⟨rfl, rfl⟩)
        go_ret
        exact ⟨rfl, (Below.refl _ _).alloc (Nat.le_refl _) _⟩

set_option maxHeartbeats 400000 in
theorem isTime_any (t : Int) (w : World) :
    Calls Tryz.prog 105 #[.int .i64 t] w fun e w' => e = .returned (.bool (inB t 0 1000000000)) ∧ w = w' := by
  go_enter Tryz.func105, Tryz.ntmps105
  go_wp2_with (go_at_call 121; refine (within_any _ _ _ _).mono ?_; rintro e w1 ⟨rfl, rfl⟩)
  go_ret
  exact ⟨rfl, rfl⟩

set_option maxHeartbeats 400000 in
theorem hasProc_any (a b c n : Int) (w : World) :
    Calls Tryz.prog 153 #[.agg #[.int .i64 a, .int .i64 b, .int .i64 c], .int .i64 n] w fun e w' => e = .returned (.bool (procB a b c n)) ∧ Below w.heap.size w w' := by
  cases h1 : planB a b c
  · rw [procB_no h1]
    go_enter Tryz.func153, Tryz.ntmps153
    go_wp2_with (go_at_call 117; refine (right_any _ _ _ _).mono ?_; rintro e w1 ⟨rfl, hb⟩)
    go_ret
    exact ⟨rfl, ((Below.refl _ _).alloc (Nat.le_refl _) _).trans (hb.mono (by simp))⟩
  · obtain ⟨⟨b2, b3⟩, b1, b4⟩ := planB_iff.1 h1
    cases h2 : inB n 0 (a - 1)
    · rw [procB_out h2]
      go_enter Tryz.func153, Tryz.ntmps153
      go_wp2_with (first
        | (go_at_call 117; refine (right_any _ _ _ _).mono ?_; rintro e w1 ⟨rfl, hb⟩; obtain ⟨hc, hf⟩ := bcell hb)
        | (go_at_call 121; refine (within_any _ _ _ _).mono ?_; rintro e w' ⟨rfl, rfl⟩))
      go_ret
      exact ⟨rfl, ((Below.refl _ _).alloc (Nat.le_refl _) _).trans (hb.mono (by simp))⟩
    · rw [procB_yes h1 h2]
      go_enter Tryz.func153, Tryz.ntmps153
      go_wp2_with (first
        | (go_at_call 117; refine (right_any _ _ _ _).mono ?_; rintro e w1 ⟨rfl, hb⟩; obtain ⟨hc, hf⟩ := bcell hb)
        | (go_at_call 121; refine (within_any _ _ _ _).mono ?_; rintro e w' ⟨rfl, rfl⟩))
      go_ret
      exact ⟨rfl, ((Below.refl _ _).alloc (Nat.le_refl _) _).trans (hb.mono (by simp))⟩

end Go.Proofs.YtflekodaiejflaaGreat

/-
  Is there such a worker, in the program?
-/
namespace Go.Proofs.YtflekodaiejflaaGreat
open Go.RowKit
set_option linter.unusedVariables false
set_option linter.unusedSimpArgs false

set_option maxHeartbeats 400000 in
theorem hasWorker_any (a b c n : Int) (w : World) :
    Calls Tryz.prog 99 #[.agg #[.int .i64 a, .int .i64 b, .int .i64 c], .int .i64 n] w fun e w' => e = .returned (.bool (workB a b c n)) ∧ Below w.heap.size w w' := by
  cases h1 : planB a b c
  · rw [workB_no h1]
    go_enter Tryz.func99, Tryz.ntmps99
    go_wp2_with (go_at_call 117; refine (right_any _ _ _ _).mono ?_; rintro e w1 ⟨rfl, hb⟩)
    go_ret
    exact ⟨rfl, ((Below.refl _ _).alloc (Nat.le_refl _) _).trans (hb.mono (by simp))⟩
  · obtain ⟨b1, ⟨b2, b3⟩, b4⟩ := planB_iff.1 h1
    cases h2 : inB n 0 (b - 1)
    · rw [workB_out h2]
      go_enter Tryz.func99, Tryz.ntmps99
      go_wp2_with (first
        | (go_at_call 117; refine (right_any _ _ _ _).mono ?_; rintro e w1 ⟨rfl, hb⟩; obtain ⟨hc, hf⟩ := bcell hb)
        | (go_at_call 121; refine (within_any _ _ _ _).mono ?_; rintro e w' ⟨rfl, rfl⟩))
      go_ret
      exact ⟨rfl, ((Below.refl _ _).alloc (Nat.le_refl _) _).trans (hb.mono (by simp))⟩
    · rw [workB_yes h1 h2]
      go_enter Tryz.func99, Tryz.ntmps99
      go_wp2_with (first
        | (go_at_call 117; refine (right_any _ _ _ _).mono ?_; rintro e w1 ⟨rfl, hb⟩; obtain ⟨hc, hf⟩ := bcell hb)
        | (go_at_call 121; refine (within_any _ _ _ _).mono ?_; rintro e w' ⟨rfl, rfl⟩))
      go_ret
      exact ⟨rfl, ((Below.refl _ _).alloc (Nat.le_refl _) _).trans (hb.mono (by simp))⟩

end Go.Proofs.YtflekodaiejflaaGreat

/-
  Lists of numbers in memory: one that is read, one that the call itself made; append.
-/
namespace Go.Proofs.YtflekodaiejflaaGreat
open Go.RowKit Go.Joins
set_option linter.unusedVariables false
set_option linter.unusedSimpArgs false

abbrev Ints := Nat → Int
def RowIAt (w : World) (v : Value) (n : Nat) (f : Ints) : Prop :=
  (n = 0 ∧ ∃ a cap, v = .slice a 0 cap) ∨ ∃ b off cap, v = .slice (some ⟨b, off, none⟩) n cap ∧ b < w.heap.size ∧ ∀ i, i < n → w.cell? ⟨b, off + i, none⟩ = some (.int .i64 (f i))
theorem RowIAt.form {w : World} {v : Value} {n : Nat} {f : Ints} (h : RowIAt w v n f) : ∃ a cap, v = .slice a n cap := by
  rcases h with ⟨rfl, a, cap, rfl⟩ | ⟨b, off, cap, rfl, _⟩
  · exact ⟨_, _, rfl⟩
  · exact ⟨_, _, rfl⟩
theorem RowIAt.below {w w' : World} {v : Value} {n : Nat} {f : Ints} (h : RowIAt w v n f) (hb : Below w.heap.size w w') : RowIAt w' v n f := by
  rcases h with h | ⟨b, off, cap, rfl, hl, hc⟩
  · exact .inl h
  · exact .inr ⟨b, off, cap, rfl, Nat.lt_of_lt_of_le hl hb.size, fun i hi => (hb.cell (p := ⟨b, off + i, none⟩) hl).trans (hc i hi)⟩
def IntIn (cur : Array Value) (n : Nat) (f : Ints) : Prop := ∀ i, i < n → cur[i]? = some (.int .i64 (f i))
def OwnIAt (w : World) (B g n cap : Nat) (f : Ints) : Prop :=
  B ≤ g ∧ n ≤ cap ∧ cap ≤ maxLen ∧ ∃ cur, w.heap[g]? = some (.cells cur 2 (0, 0)) ∧ cur.size = cap ∧ IntIn cur n f
/-- a list of the call's own: none, or in a block of its own (which an empty one may have, too) -/
def OwnIRow (w : World) (B : Nat) (v : Value) (n : Nat) (f : Ints) : Prop :=
  (n = 0 ∧ ∃ a cap, v = .slice a 0 cap) ∨ ∃ g cap, v = .slice (some ⟨g, 0, none⟩) n cap ∧ OwnIAt w B g n cap f
theorem OwnIAt.lt {w : World} {B g n cap : Nat} {f : Ints} (h : OwnIAt w B g n cap f) : g < w.heap.size := by
  obtain ⟨_, _, _, cur, hh, _⟩ := h
  exact lt_of_block hh
theorem OwnIAt.cells {w : World} {B g n cap : Nat} {f : Ints} (h : OwnIAt w B g n cap f) {i : Nat} (hi : i < n) : w.cell? ⟨g, i, none⟩ = some (.int .i64 (f i)) := by
  obtain ⟨_, _, _, cur, hh, _, hr⟩ := h
  exact (cell_of_block hh _).trans (hr i hi)
theorem OwnIAt.free {w : World} {B g n cap : Nat} {f : Ints} (h : OwnIAt w B g n cap f) (o : Nat) : w.frozen? ⟨g, o, none⟩ = false := by
  obtain ⟨_, _, _, cur, hh, _⟩ := h
  exact unfrozen_of_block hh o
theorem OwnIAt.row {w : World} {B g n cap : Nat} {f : Ints} (h : OwnIAt w B g n cap f) : RowIAt w (.slice (some ⟨g, 0, none⟩) n cap) n f :=
  .inr ⟨g, 0, cap, rfl, h.lt, fun i hi => by simpa using h.cells hi⟩
theorem OwnIRow.row {w : World} {B n : Nat} {v : Value} {f : Ints} (h : OwnIRow w B v n f) : RowIAt w v n f := by
  rcases h with ⟨rfl, a, c, rfl⟩ | ⟨g, cap, rfl, h⟩
  · exact .inl ⟨rfl, _, _, rfl⟩
  · exact h.row
theorem OwnIAt.block {w w' : World} {B g n cap : Nat} {f : Ints} (h : OwnIAt w B g n cap f) (e : w'.heap[g]? = w.heap[g]?) : OwnIAt w' B g n cap f := by
  obtain ⟨h1, h2, h3, cur, hh, r⟩ := h
  exact ⟨h1, h2, h3, cur, e.trans hh, r⟩
theorem OwnIRow.below {w w' : World} {B n : Nat} {v : Value} {f : Ints} (h : OwnIRow w B v n f) (hb : Below w.heap.size w w') : OwnIRow w' B v n f := by
  rcases h with h | ⟨g, cap, e, h⟩
  · exact .inl h
  · exact .inr ⟨g, cap, e, h.block (hb.block g h.lt)⟩
theorem OwnIRow.mono {w : World} {B B' n : Nat} {v : Value} {f : Ints} (h : OwnIRow w B v n f) (hB : B' ≤ B) : OwnIRow w B' v n f := by
  rcases h with h | ⟨g, cap, e, h1, h2⟩
  · exact .inl h
  · exact .inr ⟨g, cap, e, Nat.le_trans hB h1, h2⟩
def putI (f : Ints) (i : Nat) (x : Int) : Ints := fun k => if k = i then x else f k
theorem OwnIAt.put {w : World} {B g n cap : Nat} {f : Ints} (h : OwnIAt w B g n cap f) {k : Nat} (hk : k < n) (x : Int) : OwnIAt (w.setCell ⟨g, k, none⟩ (.int .i64 x)) B g n cap (putI f k x) := by
  obtain ⟨h1, h2, h3, cur, hh, hs, hr⟩ := h
  refine ⟨h1, h2, h3, _, block_setCell hh (i := k) _, by simp [hs], fun i hi => ?_⟩
  unfold putI
  by_cases e : i = k
  · subst e
    rw [if_pos rfl, Array.getElem?_setIfInBounds_self_of_lt (by omega)]
  · rw [if_neg e, Array.getElem?_setIfInBounds_ne (by omega)]; exact hr i hi
theorem OwnIAt.congr {w : World} {B g n cap : Nat} {f f' : Ints} (h : OwnIAt w B g n cap f) (e : ∀ i, i < n → f i = f' i) : OwnIAt w B g n cap f' := by
  obtain ⟨h1, h2, h3, cur, hh, hs, hr⟩ := h
  exact ⟨h1, h2, h3, cur, hh, hs, fun i hi => by rw [← e i hi]; exact hr i hi⟩


/-! ### append -/
def cellsI (f : Ints) : Nat → List Value
  | 0 => []
  | n + 1 => cellsI f n ++ [.int .i64 (f n)]
theorem cellsI_length (f : Ints) : ∀ n, (cellsI f n).length = n
  | 0 => rfl
  | n + 1 => by rw [cellsI, List.length_append, cellsI_length f n]; rfl
theorem cellsI_get (f : Ints) : ∀ n i, i < n → (cellsI f n)[i]? = some (.int .i64 (f i))
  | 0, i, h => absurd h (Nat.not_lt_zero _)
  | n + 1, i, h => by
    rw [cellsI]
    by_cases e : i = n
    · subst e
      rw [List.getElem?_append_right (by rw [cellsI_length]; omega), cellsI_length]; simp
    · rw [List.getElem?_append_left (by rw [cellsI_length]; omega)]; exact cellsI_get f n i (by omega)
theorem cellsI_push (f : Ints) (n : Nat) (x : Int) : cellsI f n ++ [.int .i64 x] = cellsI (putI f n x) (n + 1) := by
  rw [cellsI]
  have : ∀ k, k ≤ n → cellsI f k = cellsI (putI f n x) k := by
    intro k
    induction k with
    | zero => intro _; rfl
    | succ k ih => intro hk; rw [cellsI, cellsI, ih (by omega), putI, if_neg (by omega)]
  rw [this n (Nat.le_refl _), putI, if_pos rfl]
theorem int_info : (Tryz.prog.info? 2).map (fun i => (i.zero, i.size, i.bytes)) = some (some (.int .i64 0), 1, 8) := by kernel_rfl
theorem owni_of_row {w : World} {B n : Nat} {v : Value} {f : Ints} (h : w.ownsRow B 2 1 v n (cellsI f n)) : OwnIRow w B v n f := by
  rcases h.2 with ⟨rfl, rfl⟩ | ⟨g, cap, cur, rfl, hB, hg, hn, hcm, hs, ht⟩
  · exact .inl ⟨rfl, _, _, rfl⟩
  · refine .inr ⟨g, cap, rfl, hB, hn, hcm, cur, hg, by simpa using hs, fun i hi => ?_⟩
    have h1 := cellsI_get f n i hi
    rw [← ht, List.getElem?_take_of_lt (by omega)] at h1
    simpa using h1

theorem owns_below {w w' : World} {B n size : Nat} {e : TypeId} {v : Value} {xs : List Value} (h : w.ownsRow B e size v n xs) (hb : Below w.heap.size w w') : w'.ownsRow B e size v n xs := by
  refine ⟨h.1, ?_⟩
  rcases h.2 with h2 | ⟨g, cap, cur, ev, hB, hg, r⟩
  · exact .inl h2
  · exact .inr ⟨g, cap, cur, ev, hB, (hb.block g (lt_of_block hg)).trans hg, r⟩
theorem owns_form {w : World} {B n size : Nat} {e : TypeId} {v : Value} {xs : List Value} (h : w.ownsRow B e size v n xs) : ∃ a cap, v = .slice a n cap := by
  rcases h.2 with ⟨rfl, rfl⟩ | ⟨g, cap, cur, rfl, _⟩
  · exact ⟨_, _, rfl⟩
  · exact ⟨_, _, rfl⟩
theorem owns_ge {w : World} {B n size : Nat} {e : TypeId} {v : Value} {xs : List Value} (h : w.ownsRow B e size v n xs) : ∀ x, v.ownBlock = some x → B ≤ x := by
  intro x hx
  rcases h.2 with ⟨rfl, rfl⟩ | ⟨g, cap, cur, rfl, hB, _⟩
  · simp [Value.ownBlock] at hx
  · simp [Value.ownBlock] at hx
    subst hx
    exact hB
theorem b_grownV {a w : World} {B : Nat} {ob : Option Nat} (h : a.grownBy w ob) (hx : ∀ x, ob = some x → B ≤ x) (hs : B ≤ a.heap.size) : Below B a w :=
  ⟨h.os, h.tape, h.output, h.size, fun i hi => h.block i (by omega) (fun e => by have := hx i e.symm; omega)⟩
/-- the one cell that append's last argument lies in -/
theorem int_new {w : World} {b : Nat} (x : Int) (h : b = w.heap.size) : (w.alloc (.cells #[.int .i64 x] 2)).cell? ⟨b, 0, none⟩ = some (.int .i64 x) := by
  subst h
  exact cell_of_block (heap_alloc_new w _) 0
/-- a list of no numbers that was just made -/
theorem rowi_new {w : World} {b B : Nat} (h : b = w.heap.size) (hB : B ≤ w.heap.size) : (w.alloc (.cells #[] 2)).ownsRow B 2 1 (.slice (some ⟨b, 0, none⟩) 0 0) 0 (cellsI (fun _ => 0) 0) := by
  subst h
  exact World.ownsRow_made w (base := B) (e := 2) (size := 1) #[] 0 hB (Nat.zero_le _) rfl

end Go.Proofs.YtflekodaiejflaaGreat

/-
  The least of a list of numbers (the library's slices.Min).
-/
namespace Go.Proofs.YtflekodaiejflaaGreat
open Go.RowKit Go.Joins
set_option linter.unusedVariables false
set_option linter.unusedSimpArgs false

/-- the least of the first k + 1 -/
def leastI (f : Ints) : Nat → Int
  | 0 => f 0
  | k + 1 => if f (k + 1) < leastI f k then f (k + 1) else leastI f k

end Go.Proofs.YtflekodaiejflaaGreat

/-
  Processors, in the program (chapter 4): its own form of one, and its small methods.
-/
namespace Go.Proofs.YtflekodaiejflaaGreat
open Go.RowKit Go.Joins
set_option linter.unusedVariables false
set_option linter.unusedSimpArgs false

/-- a processor as the program works with it -/
abbrev pxV (v : Value) (l e d : Int) : Value := .agg #[.int .i64 l, v, .int .i64 e, .int .i64 d]

set_option maxRecDepth 100000 in
set_option maxHeartbeats 400000 in
theorem processorOf_any {v : Value} {n : Nat} (l e d : Int) {w : World} (hv : ∃ a cap, v = .slice a n cap) :
    Calls Tryz.prog 113 #[prV v l e d] w fun x w' => x = .returned (pxV v l e d) ∧ Below w.heap.size w w' := by
  obtain ⟨a, cap, rfl⟩ := hv
  have k0 := (Below.refl w.heap.size w).alloc (Nat.le_refl _) (.cells #[.slice a n cap, .int .i64 l, .int .i64 e, .int .i64 d] 87)
  go_enter Tryz.func113, Tryz.ntmps113
  go_wp2
  exact bodyPost_ret (v := pxV (.slice a n cap) l e d) (by simp [results, Tryz.results113, go_sem]) rfl ⟨rfl, k0.alloc k0.size _⟩

set_option maxHeartbeats 400000 in
theorem free_any (l : Int) (w : World) :
    Calls Tryz.prog 106 #[.agg #[.int .i64 l]] w fun x w' => x = .returned (.bool (l == -1)) ∧ Below w.heap.size w w' := by
  go_enter Tryz.func106, Tryz.ntmps106
  go_wp2
  go_ret
  exact ⟨rfl, (Below.refl _ _).alloc (Nat.le_refl _) _⟩

/-- the block of a processor that came in -/
abbrev pxB (v : Value) (l e d : Int) : Obj := .cells #[.int .i64 l, v, .int .i64 e, .int .i64 d] 125

set_option maxRecDepth 100000 in
set_option maxHeartbeats 400000 in
theorem lockRight_any (a b c : Int) {v : Value} {n : Nat} (l e d : Int) {w : World} (hv : ∃ a cap, v = .slice a n cap) :
    Calls Tryz.prog 144 #[pxV v l e d, .agg #[.int .i64 a, .int .i64 b, .int .i64 c]] w fun x w' => x = .returned (.bool (l == -1 || workB a b c l)) ∧ Below w.heap.size w w' := by
  obtain ⟨sa, cap, rfl⟩ := hv
  have k0 := (Below.refl w.heap.size w).alloc (Nat.le_refl _) (pxB (.slice sa n cap) l e d)
  have k1 := k0.alloc k0.size (.cells #[.int .i64 a, .int .i64 b, .int .i64 c] 46)
  cases hl : l == -1
  · rw [Bool.false_or]
    go_enter Tryz.func144, Tryz.ntmps144
    go_wp2_with (first
      | (go_at_call 106; refine (free_any _ _).mono ?_; rintro x w1 ⟨rfl, hb⟩; rw [hl]; obtain ⟨hc, hf⟩ := bcell hb)
      | (go_at_call 99; refine (hasWorker_any _ _ _ _ _).mono ?_; rintro x w2 ⟨rfl, hb2⟩))
    go_ret
    exact ⟨rfl, k1.trans ((hb.trans (hb2.mono hb.size)).mono k1.size)⟩
  · rw [Bool.true_or]
    go_enter Tryz.func144, Tryz.ntmps144
    go_wp2_with (first
      | (go_at_call 106; refine (free_any _ _).mono ?_; rintro x w1 ⟨rfl, hb⟩; rw [hl]; obtain ⟨hc, hf⟩ := bcell hb)
      | (go_at_call 99; refine (hasWorker_any _ _ _ _ _).mono ?_; rintro x w2 ⟨rfl, hb2⟩))
    go_ret
    exact ⟨rfl, k1.trans (hb.mono k1.size)⟩

set_option maxRecDepth 100000 in
set_option maxHeartbeats 400000 in
theorem earliestRight_any {v : Value} {n : Nat} (l e d : Int) {w : World} (hv : ∃ a cap, v = .slice a n cap) :
    Calls Tryz.prog 145 #[pxV v l e d] w fun x w' => x = .returned (.bool (e == -1 || inB e 0 1000000000)) ∧ Below w.heap.size w w' := by
  obtain ⟨sa, cap, rfl⟩ := hv
  have k0 := (Below.refl w.heap.size w).alloc (Nat.le_refl _) (pxB (.slice sa n cap) l e d)
  cases hl : e == -1
  · rw [Bool.false_or]
    go_enter Tryz.func145, Tryz.ntmps145
    go_wp2_with (go_at_call 105; refine (isTime_any _ _).mono ?_; rintro x w1 ⟨rfl, rfl⟩)
    go_ret
    exact ⟨rfl, k0⟩
  · rw [Bool.true_or]
    go_enter Tryz.func145, Tryz.ntmps145
    go_wp2_with (go_at_call 105; refine (isTime_any _ _).mono ?_; rintro x w1 ⟨rfl, rfl⟩)
    go_ret
    exact ⟨rfl, k0⟩

set_option maxRecDepth 100000 in
set_option maxHeartbeats 400000 in
theorem deletedRight_any {v : Value} {n : Nat} (l e d : Int) {w : World} (hn : n ≤ 1048576) (hv : ∃ a cap, v = .slice a n cap) :
    Calls Tryz.prog 146 #[pxV v l e d] w fun x w' => x = .returned (.bool (inB d 0 n)) ∧ Below w.heap.size w w' := by
  obtain ⟨sa, cap, rfl⟩ := hv
  have k0 := (Below.refl w.heap.size w).alloc (Nat.le_refl _) (pxB (.slice sa n cap) l e d)
  go_enter Tryz.func146, Tryz.ntmps146
  go_wp2_with (go_at_call 121; refine (within_any _ _ _ _).mono ?_; rintro x w1 ⟨rfl, rfl⟩)
  go_ret
  exact ⟨rfl, k0⟩

end Go.Proofs.YtflekodaiejflaaGreat

/-
  A memory as the program works with it (chapter 5): behind a pointer; its processors in a list of their own form.
-/
namespace Go.Proofs.YtflekodaiejflaaGreat
open Go.RowKit Go.Joins
set_option linter.unusedVariables false
set_option linter.unusedSimpArgs false

/-- the block of a memory -/
abbrev memB (a b c k : Int) (tv pv : Value) : Obj := .cells #[.int .i64 a, .int .i64 b, .int .i64 c, .int .i64 k, tv, pv] 121
theorem six {w : World} {b : Nat} {x0 x1 x2 x3 x4 x5 : Value} {t : TypeId} (h : w.heap[b]? = some (.cells #[x0, x1, x2, x3, x4, x5] t (0, 0))) :
    w.cell? ⟨b, 0, none⟩ = some x0 ∧ w.cell? ⟨b, 1, none⟩ = some x1 ∧ w.cell? ⟨b, 2, none⟩ = some x2 ∧ w.cell? ⟨b, 3, none⟩ = some x3 ∧ w.cell? ⟨b, 4, none⟩ = some x4 ∧ w.cell? ⟨b, 5, none⟩ = some x5 :=
  ⟨cell_of_block h 0, cell_of_block h 1, cell_of_block h 2, cell_of_block h 3, cell_of_block h 4, cell_of_block h 5⟩

/-! ### a list of processors that is read -/
def PxAt (w : World) (b o : Nat) (p : Pc) : Prop :=
  ∃ a cap, w.cell? ⟨b, o, none⟩ = some (.int .i64 p.l) ∧ w.cell? ⟨b, o + 1, none⟩ = some (.slice a p.n cap) ∧ w.cell? ⟨b, o + 2, none⟩ = some (.int .i64 p.e) ∧ w.cell? ⟨b, o + 3, none⟩ = some (.int .i64 p.d) ∧ RowAt w (.slice a p.n cap) p.n p.f
theorem PxAt.below {w w' : World} {b o : Nat} {p : Pc} (h : PxAt w b o p) (hl : b < w.heap.size) (hb : Below w.heap.size w w') : PxAt w' b o p := by
  obtain ⟨a, cap, h0, h1, h2, h3, hr⟩ := h
  exact ⟨a, cap, (hb.cell (p := ⟨b, o, none⟩) hl).trans h0, (hb.cell (p := ⟨b, o + 1, none⟩) hl).trans h1, (hb.cell (p := ⟨b, o + 2, none⟩) hl).trans h2, (hb.cell (p := ⟨b, o + 3, none⟩) hl).trans h3, hr.below hb⟩
def RowXAt (w : World) (v : Value) (m : Nat) (P : Pcs) : Prop :=
  (m = 0 ∧ ∃ a cap, v = .slice a 0 cap) ∨ ∃ b off cap, v = .slice (some ⟨b, off, none⟩) m cap ∧ b < w.heap.size ∧ ∀ i, i < m → PxAt w b (off + i * 4) (P i)
theorem RowXAt.form {w : World} {v : Value} {m : Nat} {P : Pcs} (h : RowXAt w v m P) : ∃ a cap, v = .slice a m cap := by
  rcases h with ⟨rfl, a, cap, rfl⟩ | ⟨b, off, cap, rfl, _⟩
  · exact ⟨_, _, rfl⟩
  · exact ⟨_, _, rfl⟩
theorem RowXAt.below {w w' : World} {v : Value} {m : Nat} {P : Pcs} (h : RowXAt w v m P) (hb : Below w.heap.size w w') : RowXAt w' v m P := by
  rcases h with h | ⟨b, off, cap, rfl, hl, hc⟩
  · exact .inl h
  · exact .inr ⟨b, off, cap, rfl, Nat.lt_of_lt_of_le hl hb.size, fun i hi => (hc i hi).below hl hb⟩

/-! ### a list of processors that the call made -/
def PxIn (cur : Array Value) (m : Nat) (P : Pcs) (V : Nat → Value) : Prop :=
  ∀ i, i < m → cur[i * 4]? = some (.int .i64 (P i).l) ∧ cur[i * 4 + 1]? = some (V i) ∧ cur[i * 4 + 2]? = some (.int .i64 (P i).e) ∧ cur[i * 4 + 3]? = some (.int .i64 (P i).d)
def ListXAt (w : World) (B g m cap : Nat) (P : Pcs) (V : Nat → Value) : Prop :=
  B ≤ g ∧ m ≤ cap ∧ cap ≤ maxLen ∧ ∃ cur, w.heap[g]? = some (.cells cur 125 (0, 0)) ∧ cur.size = cap * 4 ∧ PxIn cur m P V
theorem ListXAt.lt {w : World} {B g m cap : Nat} {P : Pcs} {V : Nat → Value} (h : ListXAt w B g m cap P V) : g < w.heap.size := by
  obtain ⟨_, _, _, cur, hh, _⟩ := h
  exact lt_of_block hh
theorem ListXAt.cells {w : World} {B g m cap : Nat} {P : Pcs} {V : Nat → Value} (h : ListXAt w B g m cap P V) {i : Nat} (hi : i < m) :
    w.cell? ⟨g, i * 4, none⟩ = some (.int .i64 (P i).l) ∧ w.cell? ⟨g, i * 4 + 1, none⟩ = some (V i) ∧ w.cell? ⟨g, i * 4 + 2, none⟩ = some (.int .i64 (P i).e) ∧ w.cell? ⟨g, i * 4 + 3, none⟩ = some (.int .i64 (P i).d) := by
  obtain ⟨_, _, _, cur, hh, _, hr⟩ := h
  obtain ⟨h0, h1, h2, h3⟩ := hr i hi
  exact ⟨(cell_of_block hh _).trans h0, (cell_of_block hh _).trans h1, (cell_of_block hh _).trans h2, (cell_of_block hh _).trans h3⟩
theorem ListXAt.free {w : World} {B g m cap : Nat} {P : Pcs} {V : Nat → Value} (h : ListXAt w B g m cap P V) (o : Nat) : w.frozen? ⟨g, o, none⟩ = false := by
  obtain ⟨_, _, _, cur, hh, _⟩ := h
  exact unfrozen_of_block hh o
theorem ListXAt.block {w w' : World} {B g m cap : Nat} {P : Pcs} {V : Nat → Value} (h : ListXAt w B g m cap P V) (e : w'.heap[g]? = w.heap[g]?) : ListXAt w' B g m cap P V := by
  obtain ⟨h1, h2, h3, cur, hh, r⟩ := h
  exact ⟨h1, h2, h3, cur, e.trans hh, r⟩
theorem ListXAt.below {w w' : World} {B g m cap : Nat} {P : Pcs} {V : Nat → Value} (h : ListXAt w B g m cap P V) (hb : Below w.heap.size w w') : ListXAt w' B g m cap P V := h.block (hb.block g h.lt)
theorem ListXAt.congr {w : World} {B g m cap : Nat} {P Q : Pcs} {V U : Nat → Value} (h : ListXAt w B g m cap P V) (e : ∀ i, i < m → P i = Q i) (ev : ∀ i, i < m → V i = U i) : ListXAt w B g m cap Q U := by
  obtain ⟨h1, h2, h3, cur, hh, hs, hr⟩ := h
  exact ⟨h1, h2, h3, cur, hh, hs, fun i hi => by rw [← e i hi, ← ev i hi]; exact hr i hi⟩
theorem ListXAt.mono {w : World} {B B' g m cap : Nat} {P : Pcs} {V : Nat → Value} (h : ListXAt w B g m cap P V) (hB : B' ≤ B) : ListXAt w B' g m cap P V := by
  obtain ⟨h1, r⟩ := h
  exact ⟨Nat.le_trans hB h1, r⟩
/-- as a list that is read -/
theorem ListXAt.row {w : World} {B g m cap : Nat} {P : Pcs} {V : Nat → Value} (h : ListXAt w B g m cap P V) (hr : ∀ i, i < m → RowAt w (V i) (P i).n (P i).f) : RowXAt w (.slice (some ⟨g, 0, none⟩) m cap) m P :=
  .inr ⟨g, 0, cap, rfl, h.lt, fun i hi => by
    obtain ⟨h0, h1, h2, h3⟩ := h.cells hi
    have ho := hr i hi
    obtain ⟨a, c, e⟩ := ho.form
    rw [e] at h1 ho
    exact ⟨a, c, by simpa using h0, by simpa using h1, by simpa using h2, by simpa using h3, ho⟩⟩

/-- a processor is stored -/
abbrev setX (w : World) (g k : Nat) (u : Value) (l e d : Int) : World := (((w.setCell ⟨g, k * 4, none⟩ (.int .i64 l)).setCell ⟨g, k * 4 + 1, none⟩ u).setCell ⟨g, k * 4 + 2, none⟩ (.int .i64 e)).setCell ⟨g, k * 4 + 3, none⟩ (.int .i64 d)
theorem putX4 {cur : Array Value} {m cap k : Nat} {P : Pcs} {V : Nat → Value} (hs : cur.size = cap * 4) (hk : k < cap) (hr : PxIn cur m P V) (u : Value) (p : Pc) :
    PxIn ((((cur.setIfInBounds (k * 4) (.int .i64 p.l)).setIfInBounds (k * 4 + 1) u).setIfInBounds (k * 4 + 2) (.int .i64 p.e)).setIfInBounds (k * 4 + 3) (.int .i64 p.d)) m (putP P k p) (putV V k u) := by
  intro i hi
  by_cases e : i = k
  · subst e
    rw [putP_same, putV_same]
    refine ⟨?_, ?_, ?_, ?_⟩ <;> (simp only [Array.getElem?_setIfInBounds, Array.size_setIfInBounds]; simp; try omega)
  · rw [putP_other P p e, putV_other V u e]
    obtain ⟨h0, h1, h2, h3⟩ := hr i hi
    refine ⟨?_, ?_, ?_, ?_⟩
    · rw [Array.getElem?_setIfInBounds_ne (by omega), Array.getElem?_setIfInBounds_ne (by omega), Array.getElem?_setIfInBounds_ne (by omega), Array.getElem?_setIfInBounds_ne (by omega)]; exact h0
    · rw [Array.getElem?_setIfInBounds_ne (by omega), Array.getElem?_setIfInBounds_ne (by omega), Array.getElem?_setIfInBounds_ne (by omega), Array.getElem?_setIfInBounds_ne (by omega)]; exact h1
    · rw [Array.getElem?_setIfInBounds_ne (by omega), Array.getElem?_setIfInBounds_ne (by omega), Array.getElem?_setIfInBounds_ne (by omega), Array.getElem?_setIfInBounds_ne (by omega)]; exact h2
    · rw [Array.getElem?_setIfInBounds_ne (by omega), Array.getElem?_setIfInBounds_ne (by omega), Array.getElem?_setIfInBounds_ne (by omega), Array.getElem?_setIfInBounds_ne (by omega)]; exact h3
theorem ListXAt.put {w : World} {B g m cap : Nat} {P : Pcs} {V : Nat → Value} (h : ListXAt w B g m cap P V) {k : Nat} (hk : k < m) (u : Value) (p : Pc) : ListXAt (setX w g k u p.l p.e p.d) B g m cap (putP P k p) (putV V k u) := by
  obtain ⟨h1, h2, h3, cur, hh, hs, hr⟩ := h
  refine ⟨h1, h2, h3, _, block_setCell (block_setCell (block_setCell (block_setCell hh (i := k * 4) _) (i := k * 4 + 1) _) (i := k * 4 + 2) _) (i := k * 4 + 3) _, by simp [hs], putX4 hs (by omega) hr u p⟩
theorem heap_setX (w : World) (g k : Nat) (u : Value) (l e d : Int) {x : Nat} (hx : x ≠ g) : (setX w g k u l e d).heap[x]? = w.heap[x]? :=
  (Below.heap_setCell _ ⟨g, k * 4 + 3, none⟩ _ x hx).trans ((Below.heap_setCell _ ⟨g, k * 4 + 2, none⟩ _ x hx).trans ((Below.heap_setCell _ ⟨g, k * 4 + 1, none⟩ _ x hx).trans (Below.heap_setCell _ ⟨g, k * 4, none⟩ _ x hx)))
theorem b_setX {W w : World} {n g : Nat} (h : Below n W w) (hg : n ≤ g) (k : Nat) (u : Value) (l e d : Int) : Below n W (setX w g k u l e d) :=
  (((h.setCell (p := ⟨g, k * 4, none⟩) hg _).setCell (p := ⟨g, k * 4 + 1, none⟩) hg _).setCell (p := ⟨g, k * 4 + 2, none⟩) hg _).setCell (p := ⟨g, k * 4 + 3, none⟩) hg _

theorem px_info : (Tryz.prog.info? 125).map (fun i => (i.zero, i.size, i.bytes)) = some (some (.agg #[.int .i64 0, .slice none 0 0, .int .i64 0, .int .i64 0]), 4, 48) := by kernel_rfl
theorem madeX_zero (n i : Nat) (hi : i < n) : (madeCells #[.int .i64 0, .slice none 0 0, .int .i64 0, .int .i64 0] (n * 4))[i * 4]? = some (.int .i64 0) ∧ (madeCells #[.int .i64 0, .slice none 0 0, .int .i64 0, .int .i64 0] (n * 4))[i * 4 + 1]? = some (.slice none 0 0) ∧ (madeCells #[.int .i64 0, .slice none 0 0, .int .i64 0, .int .i64 0] (n * 4))[i * 4 + 2]? = some (.int .i64 0) ∧ (madeCells #[.int .i64 0, .slice none 0 0, .int .i64 0, .int .i64 0] (n * 4))[i * 4 + 3]? = some (.int .i64 0) := by
  have m1 : (i * 4 + 1) % 4 = 1 := by omega
  have m2 : (i * 4 + 2) % 4 = 2 := by omega
  have m3 : (i * 4 + 3) % 4 = 3 := by omega
  refine ⟨?_, ?_, ?_, ?_⟩ <;> (rw [Array.getElem?_eq_getElem (by rw [size_madeCells]; omega)]; simp [madeCells, m1, m2, m3])
abbrev madeX (n : Nat) : Obj := .cells (madeCells #[.int .i64 0, .slice none 0 0, .int .i64 0, .int .i64 0] (n * 4)) 125
theorem listx_made (w : World) (n : Nat) (hn : n ≤ maxLen) : ListXAt (w.alloc (madeX n)) w.heap.size w.heap.size n n (fun _ => pc0) (fun _ => .slice none 0 0) :=
  ⟨Nat.le_refl _, Nat.le_refl _, hn, _, heap_alloc_new w _, size_madeCells _ _, fun i hi => madeX_zero n i hi⟩
theorem run_make_px (n : Nat) (hn : n ≤ 1048576) : ∀ w : World, (Instr.makeSlice 119 (.int .i64 (n : Int)) (.int .i64 (n : Int))).run Tryz.prog w = .ok (.slice (some ⟨w.heap.size, 0, none⟩) n n) (w.alloc (madeX n)) := by
  intro w
  obtain ⟨i0, hi, hz, hs, hby⟩ := info_parts px_info
  have hr := run_make (P := Tryz.prog) w 119 125 i0 _ Tryz.underlying119 hi hz .i64 .i64 (n : Int) (n : Int) (by omega) (by omega) (by rw [hby]; omega) (by omega)
  rw [hs] at hr
  simp only [Int.toNat_natCast] at hr
  exact hr

/-! ### a memory that is looked at -/
def SeenAt (w : World) (mb : Nat) (a b c : Int) (M : Me) : Prop := ∃ tv pv, w.heap[mb]? = some (memB a b c M.c tv pv) ∧ RowTAt w tv M.tn M.t ∧ RowXAt w pv M.pn M.p
theorem SeenAt.lt {w : World} {mb : Nat} {a b c : Int} {M : Me} (h : SeenAt w mb a b c M) : mb < w.heap.size := by
  obtain ⟨_, _, h, _⟩ := h
  exact lt_of_block h
theorem SeenAt.below {w w' : World} {mb : Nat} {a b c : Int} {M : Me} (h : SeenAt w mb a b c M) (hb : Below w.heap.size w w') : SeenAt w' mb a b c M := by
  obtain ⟨tv, pv, h1, h2, h3⟩ := h
  exact ⟨tv, pv, b_block hb h1 (lt_of_block h1), h2.below hb, h3.below hb⟩
/-- the pointer to a memory -/
abbrev ptrV (mb : Nat) : Value := .pointer (some ⟨mb, 0, none⟩)

end Go.Proofs.YtflekodaiejflaaGreat

/-
  A memory as the program works with it (chapter 5): has it a timer; do the slots of a processor agree with the timers?
-/
namespace Go.Proofs.YtflekodaiejflaaGreat
open Go.RowKit Go.Joins
set_option linter.unusedVariables false
set_option linter.unusedSimpArgs false

set_option maxHeartbeats 400000 in
theorem hasTimer_any {mb : Nat} {a b c : Int} {M : Me} {w : World} (hn : M.tn ≤ 1048576) (h : SeenAt w mb a b c M) (t : Int) :
    Calls Tryz.prog 100 #[ptrV mb, .int .i64 t] w fun e w' => e = .returned (.bool (hasT M t)) ∧ Below w.heap.size w w' := by
  obtain ⟨tv, pv, hb, ht, _⟩ := h
  obtain ⟨ta, tc, rfl⟩ := ht.form
  obtain ⟨m0, m1, m2, m3, m4, m5⟩ := six hb
  clear hb ht
  unfold hasT
  go_enter Tryz.func100, Tryz.ntmps100
  go_wp2_with fail
  go_at_call 121; refine (within_any _ _ _ _).mono ?_; rintro x w1 ⟨rfl, rfl⟩
  go_wp2
  go_ret
  exact ⟨rfl, Below.refl _ _⟩

/-- is a timer overlooked? -/
def ovB (e : Int) (t : Tm) : Bool := t.st == 3 && (e == -1 || decide (t.nx < e))
set_option maxRecDepth 100000 in
set_option maxHeartbeats 1000000 in
theorem overlooks_any {v : Value} {n : Nat} (l e d : Int) (t : Tm) {w : World} (hv : ∃ a cap, v = .slice a n cap) :
    Calls Tryz.prog 147 #[pxV v l e d, tmV t] w fun x w' => x = .returned (.bool (ovB e t)) ∧ Below w.heap.size w w' := by
  obtain ⟨sa, cap, rfl⟩ := hv
  obtain ⟨st, wh, nx, pe, pl, ge, ki, ma⟩ := t
  have k0 := (Below.refl w.heap.size w).alloc (Nat.le_refl _) (pxB (.slice sa n cap) l e d)
  have k1 := k0.alloc k0.size (.cells (tmCells ⟨st, wh, nx, pe, pl, ge, ki, ma⟩) 90)
  cases h3 : st == 3
  · rw [show ovB e ⟨st, wh, nx, pe, pl, ge, ki, ma⟩ = false by simp only [ovB, h3]; rfl]
    go_enter Tryz.func147, Tryz.ntmps147
    go_wp2
    go_ret
    exact ⟨rfl, k1⟩
  cases he : e == -1
  · rw [show ovB e ⟨st, wh, nx, pe, pl, ge, ki, ma⟩ = decide (nx < e) by simp only [ovB, h3, he]; rfl]
    go_enter Tryz.func147, Tryz.ntmps147
    go_wp2
    go_ret
    exact ⟨rfl, k1⟩
  · rw [show ovB e ⟨st, wh, nx, pe, pl, ge, ki, ma⟩ = true by simp only [ovB, h3, he]; rfl]
    go_enter Tryz.func147, Tryz.ntmps147
    go_wp2
    go_ret
    exact ⟨rfl, k1⟩

set_option maxRecDepth 100000 in
set_option maxHeartbeats 8000000 in
theorem slotsAgree_any {mb : Nat} {a b c : Int} {M : Me} {w : World} (htn : M.tn ≤ 1048576) (h : SeenAt w mb a b c M) (k : Int) {v : Value} {n : Nat} {f : Slots} (hn : n ≤ 1048576) (hr : RowAt w v n f) :
    Calls Tryz.prog 128 #[ptrV mb, .int .i64 k, v] w fun e w' => e = .returned (.bool (allB (fun i => slotOkB M k (f i)) n)) ∧ Below w.heap.size w w' := by
  obtain ⟨a1, c1, rfl⟩ := hr.form
  have HR := Lib.hid hr
  have HS := Lib.hid h
  clear h hr
  go_enter Tryz.func128, Tryz.ntmps128
  go_wp2_with fail
  go_loopw [11] (fun i wr => ∃ q : Nat, q ≤ n ∧ i = .int .i64 q ∧ Hid (allB (fun i => slotOkB M k (f i)) q = true) ∧ Below w.heap.size w wr) (fun i _ => n - (intOf i).toNat)
  case atStart => exact ⟨0, Nat.zero_le _, rfl, Lib.hid rfl, Below.refl _ _⟩
  case round =>
    obtain ⟨i, hi, rfl, hok, kw⟩ := hrel
    by_cases hlt : i < n
    · rcases HR.out with ⟨h0, _⟩ | ⟨sb, so, scap, ev, hsb, hsc⟩
      · omega
      injection ev with ev1 ev2 ev3
      subst ev1 ev3
      obtain ⟨s0, s1⟩ := hsc i hlt
      replace s0 := (kw.cell (p := ⟨sb, so + i * 2, none⟩) hsb).trans s0
      replace s1 := (kw.cell (p := ⟨sb, so + i * 2 + 1, none⟩) hsb).trans s1
      have i1 : (i : Int) < (n : Int) := by omega
      have i0 : (0 : Int) ≤ (i : Int) := by omega
      obtain ⟨id, hid⟩ : ∃ id : Int, id = (f i).1 := ⟨_, rfl⟩
      obtain ⟨ky, hky⟩ : ∃ ky : Int, ky = (f i).2 := ⟨_, rfl⟩
      rw [← hid] at s0
      rw [← hky] at s1
      have ks := kw.alloc kw.size (.cells #[.int .i64 id, .int .i64 ky] 133)
      have hSv := heap_alloc_new wr (.cells #[.int .i64 id, .int .i64 ky] 133)
      have lS := lt_of_block hSv
      obtain ⟨tv, pv, hM, hT, _⟩ := HS.out.below ks
      obtain ⟨ta, tc, htv⟩ := hT.form
      subst htv
      have lM := lt_of_block hM
      obtain ⟨m0, m1, m2, m3, m4, m5⟩ := six hM
      have z0 := cell_of_block hSv 0
      have z1 := cell_of_block hSv 1
      have HOK := Lib.hid hok.out
      have HID := Lib.hid hid
      have HKY := Lib.hid hky
      clear hok hid hky hsc hM hSv
      cases hh : hasT M id
      · have HBAD := Lib.hid (show allB (fun i => slotOkB M k (f i)) n = false from allB_bad (i := i) (by show slotOkB M k (f i) = false; unfold slotOkB; rw [← HID.out, hh]; rfl) _ hlt)
        have HH := Lib.hid hh
        clear hh
        obtain ⟨C, hC⟩ : ∃ C : World → Prop, ∀ w', C w' ↔ (w'.cell? ⟨mb, 4, none⟩ = some (.slice ta M.tn tc) ∧ w'.cell? ⟨wr.heap.size, 0, none⟩ = some (.int .i64 id) ∧ w'.cell? ⟨wr.heap.size, 1, none⟩ = some (.int .i64 ky) ∧ Below ((wr.alloc (.cells #[.int .i64 id, .int .i64 ky] 133))).heap.size ((wr.alloc (.cells #[.int .i64 id, .int .i64 ky] 133))) w') := ⟨_, fun _ => Iff.rfl⟩
        have HCin := Lib.hid (show ∀ w', Below ((wr.alloc (.cells #[.int .i64 id, .int .i64 ky] 133))).heap.size ((wr.alloc (.cells #[.int .i64 id, .int .i64 ky] 133))) w' → C w' from fun w' kd => (hC w').2 ⟨(kd.cell (p := ⟨mb, 4, none⟩) lM).trans m4, (kd.cell (p := ⟨wr.heap.size, 0, none⟩) lS).trans z0, (kd.cell (p := ⟨wr.heap.size, 1, none⟩) lS).trans z1, kd⟩)
        have HC := Lib.hid hC
        have HFn0 : ∀ W : World, Below ((wr.alloc (.cells #[.int .i64 id, .int .i64 ky] 133))).heap.size ((wr.alloc (.cells #[.int .i64 id, .int .i64 ky] 133))) W → Calls Tryz.prog 100 #[ptrV mb, .int .i64 id] W (fun e w'' => e = .returned (.bool false) ∧ Below W.heap.size W w'') := fun W hW => by have := hasTimer_any htn (HS.out.below (ks.trans (hW.mono ks.size))) (id); rw [HH.out] at this; exact this
        have HCall0 := Lib.hid (show ∀ w', C w' → Calls Tryz.prog 100 #[ptrV mb, .int .i64 id] w' (fun e w'' => e = .returned (.bool false) ∧ C w'') from fun w' hw' => (HFn0 w' ((HC.out w').1 hw').2.2.2).mono (fun e w'' hx => ⟨hx.1, HCin.out _ ((((HC.out w').1 hw').2.2.2).trans (hx.2.mono (((HC.out w').1 hw').2.2.2).size))⟩))
        clear hC HFn0
        go_wp2_with fail
        refine region_quietC (C := C) (by kernel_rfl) (by kernel_rfl) (HCin.out _ (Below.refl _ _).drew) ?_
        repeat (first
          | go_big_quiet_skip
          | (go_big_quiet_want; go_big_quiet_op; go_big_quiet_on)
          | (refine quiet_take (v := ?_) (by rfl) ?_ ?_
             rotate_left
             · intro w' hw'
               obtain ⟨q0, q1, q2, hbel⟩ := (HC.out w').1 hw'
               go_simp
               first
                 | done
                 | exact rfl
                 | exact HCall0.out w' hw'
             simp only [Act.put, List.setIfInBounds_toArray, List.set_cons_zero, List.set_cons_succ]))
        refine wpQuiet_nil ?_
        intro wq hwq
        obtain ⟨q0, q1, q2, kd⟩ := (HC.out wq).1 hwq
        clear hwq HCall0 HC HCin
        go_wp2
        go_ret
        exact ⟨ret_bool' HBAD.out.symm, ks.trans (kd.mono ks.size)⟩
      obtain ⟨g0, g1⟩ := hasT_iff.1 hh
      rcases hT with ⟨h0, _⟩ | ⟨tb, tof, tcap, ev, htb, htc⟩
      · omega
      injection ev with ev1 ev2 ev3
      subst ev1 ev3
      obtain ⟨j, rfl⟩ : ∃ j : Nat, id = (j : Int) := ⟨id.toNat, by omega⟩
      have hj : j < M.tn := by omega
      have ht := htc j hj
      have t4 : (wr.alloc (.cells #[.int .i64 (j : Int), .int .i64 ky] 133)).cell? ⟨tb, tof + j * 8 + 4, none⟩ = some (.int .i64 (M.t j).pl) := ht 4 (by decide)
      have t1 : (wr.alloc (.cells #[.int .i64 (j : Int), .int .i64 ky] 133)).cell? ⟨tb, tof + j * 8 + 1, none⟩ = some (.int .i64 (M.t j).wh) := ht 1 (by decide)
      have HH := Lib.hid hh
      have hjn : ((f i).1).toNat = j := by rw [← HID.out]; simp
      have HS1 := Lib.hid (show slotOkB M k (f i) = ((M.t j).pl == k && (M.t j).wh == ky) by unfold slotOkB; rw [← HID.out, HH.out, ← HKY.out, Int.toNat_natCast]; rfl)
      obtain ⟨pl, hpl⟩ : ∃ pl : Int, pl = (M.t j).pl := ⟨_, rfl⟩
      obtain ⟨wh, hwh⟩ : ∃ wh : Int, wh = (M.t j).wh := ⟨_, rfl⟩
      rw [← hpl] at t4 HS1
      rw [← hwh] at t1 HS1
      clear ht htc hh hjn hpl hwh
      have ij0 : (0 : Int) ≤ (j : Int) := by omega
      have ij1 : (j : Int) < (M.tn : Int) := by omega
      cases e1 : pl == k
      · have n1 : (pl != k) = true := by rw [bne, e1]; rfl
        have HBAD := Lib.hid (show allB (fun i => slotOkB M k (f i)) n = false from allB_bad (i := i) (by show slotOkB M k (f i) = false; rw [HS1.out, e1]; rfl) _ hlt)
        obtain ⟨C, hC⟩ : ∃ C : World → Prop, ∀ w', C w' ↔ (w'.cell? ⟨mb, 4, none⟩ = some (.slice (some ⟨tb, tof, none⟩) M.tn tc) ∧ w'.cell? ⟨wr.heap.size, 0, none⟩ = some (.int .i64 (j : Int)) ∧ w'.cell? ⟨wr.heap.size, 1, none⟩ = some (.int .i64 ky) ∧ w'.cell? ⟨tb, tof + j * 8 + 4, none⟩ = some (.int .i64 pl) ∧ w'.cell? ⟨tb, tof + j * 8 + 1, none⟩ = some (.int .i64 wh) ∧ Below ((wr.alloc (.cells #[.int .i64 (j : Int), .int .i64 ky] 133))).heap.size ((wr.alloc (.cells #[.int .i64 (j : Int), .int .i64 ky] 133))) w') := ⟨_, fun _ => Iff.rfl⟩
        have HCin := Lib.hid (show ∀ w', Below ((wr.alloc (.cells #[.int .i64 (j : Int), .int .i64 ky] 133))).heap.size ((wr.alloc (.cells #[.int .i64 (j : Int), .int .i64 ky] 133))) w' → C w' from fun w' kd => (hC w').2 ⟨(kd.cell (p := ⟨mb, 4, none⟩) lM).trans m4, (kd.cell (p := ⟨wr.heap.size, 0, none⟩) lS).trans z0, (kd.cell (p := ⟨wr.heap.size, 1, none⟩) lS).trans z1, (kd.cell (p := ⟨tb, tof + j * 8 + 4, none⟩) htb).trans t4, (kd.cell (p := ⟨tb, tof + j * 8 + 1, none⟩) htb).trans t1, kd⟩)
        have HC := Lib.hid hC
        have HFn0 : ∀ W : World, Below ((wr.alloc (.cells #[.int .i64 (j : Int), .int .i64 ky] 133))).heap.size ((wr.alloc (.cells #[.int .i64 (j : Int), .int .i64 ky] 133))) W → Calls Tryz.prog 100 #[ptrV mb, .int .i64 (j : Int)] W (fun e w'' => e = .returned (.bool true) ∧ Below W.heap.size W w'') := fun W hW => by have := hasTimer_any htn (HS.out.below (ks.trans (hW.mono ks.size))) ((j : Int)); rw [HH.out] at this; exact this
        have HCall0 := Lib.hid (show ∀ w', C w' → Calls Tryz.prog 100 #[ptrV mb, .int .i64 (j : Int)] w' (fun e w'' => e = .returned (.bool true) ∧ C w'') from fun w' hw' => (HFn0 w' ((HC.out w').1 hw').2.2.2.2.2).mono (fun e w'' hx => ⟨hx.1, HCin.out _ ((((HC.out w').1 hw').2.2.2.2.2).trans (hx.2.mono (((HC.out w').1 hw').2.2.2.2.2).size))⟩))
        clear hC HFn0
        go_wp2_with fail
        refine region_quietC (C := C) (by kernel_rfl) (by kernel_rfl) (HCin.out _ (Below.refl _ _).drew) ?_
        repeat (first
          | go_big_quiet_skip
          | (go_big_quiet_want; go_big_quiet_op; go_big_quiet_on)
          | (refine quiet_take (v := ?_) (by rfl) ?_ ?_
             rotate_left
             · intro w' hw'
               obtain ⟨q0, q1, q2, q3, q4, hbel⟩ := (HC.out w').1 hw'
               go_simp
               first
                 | done
                 | exact rfl
                 | exact HCall0.out w' hw'
             simp only [Act.put, List.setIfInBounds_toArray, List.set_cons_zero, List.set_cons_succ]))
        refine wpQuiet_nil ?_
        intro wq hwq
        obtain ⟨q0, q1, q2, q3, q4, kd⟩ := (HC.out wq).1 hwq
        clear hwq HCall0 HC HCin
        go_wp2
        go_ret
        exact ⟨ret_bool' HBAD.out.symm, ks.trans (kd.mono ks.size)⟩
      have n1 : (pl != k) = false := by rw [bne, e1]; rfl
      cases e2 : wh == ky
      · have n2 : (wh != ky) = true := by rw [bne, e2]; rfl
        have HBAD := Lib.hid (show allB (fun i => slotOkB M k (f i)) n = false from allB_bad (i := i) (by show slotOkB M k (f i) = false; rw [HS1.out, e1, e2]; rfl) _ hlt)
        obtain ⟨C, hC⟩ : ∃ C : World → Prop, ∀ w', C w' ↔ (w'.cell? ⟨mb, 4, none⟩ = some (.slice (some ⟨tb, tof, none⟩) M.tn tc) ∧ w'.cell? ⟨wr.heap.size, 0, none⟩ = some (.int .i64 (j : Int)) ∧ w'.cell? ⟨wr.heap.size, 1, none⟩ = some (.int .i64 ky) ∧ w'.cell? ⟨tb, tof + j * 8 + 4, none⟩ = some (.int .i64 pl) ∧ w'.cell? ⟨tb, tof + j * 8 + 1, none⟩ = some (.int .i64 wh) ∧ Below ((wr.alloc (.cells #[.int .i64 (j : Int), .int .i64 ky] 133))).heap.size ((wr.alloc (.cells #[.int .i64 (j : Int), .int .i64 ky] 133))) w') := ⟨_, fun _ => Iff.rfl⟩
        have HCin := Lib.hid (show ∀ w', Below ((wr.alloc (.cells #[.int .i64 (j : Int), .int .i64 ky] 133))).heap.size ((wr.alloc (.cells #[.int .i64 (j : Int), .int .i64 ky] 133))) w' → C w' from fun w' kd => (hC w').2 ⟨(kd.cell (p := ⟨mb, 4, none⟩) lM).trans m4, (kd.cell (p := ⟨wr.heap.size, 0, none⟩) lS).trans z0, (kd.cell (p := ⟨wr.heap.size, 1, none⟩) lS).trans z1, (kd.cell (p := ⟨tb, tof + j * 8 + 4, none⟩) htb).trans t4, (kd.cell (p := ⟨tb, tof + j * 8 + 1, none⟩) htb).trans t1, kd⟩)
        have HC := Lib.hid hC
        have HFn0 : ∀ W : World, Below ((wr.alloc (.cells #[.int .i64 (j : Int), .int .i64 ky] 133))).heap.size ((wr.alloc (.cells #[.int .i64 (j : Int), .int .i64 ky] 133))) W → Calls Tryz.prog 100 #[ptrV mb, .int .i64 (j : Int)] W (fun e w'' => e = .returned (.bool true) ∧ Below W.heap.size W w'') := fun W hW => by have := hasTimer_any htn (HS.out.below (ks.trans (hW.mono ks.size))) ((j : Int)); rw [HH.out] at this; exact this
        have HCall0 := Lib.hid (show ∀ w', C w' → Calls Tryz.prog 100 #[ptrV mb, .int .i64 (j : Int)] w' (fun e w'' => e = .returned (.bool true) ∧ C w'') from fun w' hw' => (HFn0 w' ((HC.out w').1 hw').2.2.2.2.2).mono (fun e w'' hx => ⟨hx.1, HCin.out _ ((((HC.out w').1 hw').2.2.2.2.2).trans (hx.2.mono (((HC.out w').1 hw').2.2.2.2.2).size))⟩))
        clear hC HFn0
        go_wp2_with fail
        refine region_quietC (C := C) (by kernel_rfl) (by kernel_rfl) (HCin.out _ (Below.refl _ _).drew) ?_
        repeat (first
          | go_big_quiet_skip
          | (go_big_quiet_want; go_big_quiet_op; go_big_quiet_on)
          | (refine quiet_take (v := ?_) (by rfl) ?_ ?_
             rotate_left
             · intro w' hw'
               obtain ⟨q0, q1, q2, q3, q4, hbel⟩ := (HC.out w').1 hw'
               go_simp
               first
                 | done
                 | exact rfl
                 | exact HCall0.out w' hw'
             simp only [Act.put, List.setIfInBounds_toArray, List.set_cons_zero, List.set_cons_succ]))
        refine wpQuiet_nil ?_
        intro wq hwq
        obtain ⟨q0, q1, q2, q3, q4, kd⟩ := (HC.out wq).1 hwq
        clear hwq HCall0 HC HCin
        go_wp2
        go_ret
        exact ⟨ret_bool' HBAD.out.symm, ks.trans (kd.mono ks.size)⟩
      · have n2 : (wh != ky) = false := by rw [bne, e2]; rfl
        have HOKN := Lib.hid (show allB (fun i => slotOkB M k (f i)) (i + 1) = true by rw [allB, HOK.out, Bool.true_and]; show slotOkB M k (f i) = true; rw [HS1.out, e1, e2]; rfl)
        obtain ⟨C, hC⟩ : ∃ C : World → Prop, ∀ w', C w' ↔ (w'.cell? ⟨mb, 4, none⟩ = some (.slice (some ⟨tb, tof, none⟩) M.tn tc) ∧ w'.cell? ⟨wr.heap.size, 0, none⟩ = some (.int .i64 (j : Int)) ∧ w'.cell? ⟨wr.heap.size, 1, none⟩ = some (.int .i64 ky) ∧ w'.cell? ⟨tb, tof + j * 8 + 4, none⟩ = some (.int .i64 pl) ∧ w'.cell? ⟨tb, tof + j * 8 + 1, none⟩ = some (.int .i64 wh) ∧ Below ((wr.alloc (.cells #[.int .i64 (j : Int), .int .i64 ky] 133))).heap.size ((wr.alloc (.cells #[.int .i64 (j : Int), .int .i64 ky] 133))) w') := ⟨_, fun _ => Iff.rfl⟩
        have HCin := Lib.hid (show ∀ w', Below ((wr.alloc (.cells #[.int .i64 (j : Int), .int .i64 ky] 133))).heap.size ((wr.alloc (.cells #[.int .i64 (j : Int), .int .i64 ky] 133))) w' → C w' from fun w' kd => (hC w').2 ⟨(kd.cell (p := ⟨mb, 4, none⟩) lM).trans m4, (kd.cell (p := ⟨wr.heap.size, 0, none⟩) lS).trans z0, (kd.cell (p := ⟨wr.heap.size, 1, none⟩) lS).trans z1, (kd.cell (p := ⟨tb, tof + j * 8 + 4, none⟩) htb).trans t4, (kd.cell (p := ⟨tb, tof + j * 8 + 1, none⟩) htb).trans t1, kd⟩)
        have HC := Lib.hid hC
        have HFn0 : ∀ W : World, Below ((wr.alloc (.cells #[.int .i64 (j : Int), .int .i64 ky] 133))).heap.size ((wr.alloc (.cells #[.int .i64 (j : Int), .int .i64 ky] 133))) W → Calls Tryz.prog 100 #[ptrV mb, .int .i64 (j : Int)] W (fun e w'' => e = .returned (.bool true) ∧ Below W.heap.size W w'') := fun W hW => by have := hasTimer_any htn (HS.out.below (ks.trans (hW.mono ks.size))) ((j : Int)); rw [HH.out] at this; exact this
        have HCall0 := Lib.hid (show ∀ w', C w' → Calls Tryz.prog 100 #[ptrV mb, .int .i64 (j : Int)] w' (fun e w'' => e = .returned (.bool true) ∧ C w'') from fun w' hw' => (HFn0 w' ((HC.out w').1 hw').2.2.2.2.2).mono (fun e w'' hx => ⟨hx.1, HCin.out _ ((((HC.out w').1 hw').2.2.2.2.2).trans (hx.2.mono (((HC.out w').1 hw').2.2.2.2.2).size))⟩))
        clear hC HFn0
        go_wp2_with fail
        refine region_quietC (C := C) (by kernel_rfl) (by kernel_rfl) (HCin.out _ (Below.refl _ _).drew) ?_
        repeat (first
          | go_big_quiet_skip
          | (go_big_quiet_want; go_big_quiet_op; go_big_quiet_on)
          | (refine quiet_take (v := ?_) (by rfl) ?_ ?_
             rotate_left
             · intro w' hw'
               obtain ⟨q0, q1, q2, q3, q4, hbel⟩ := (HC.out w').1 hw'
               go_simp
               first
                 | done
                 | exact rfl
                 | exact HCall0.out w' hw'
             simp only [Act.put, List.setIfInBounds_toArray, List.set_cons_zero, List.set_cons_succ]))
        refine wpQuiet_nil ?_
        intro wq hwq
        obtain ⟨q0, q1, q2, q3, q4, kd⟩ := (HC.out wq).1 hwq
        clear hwq HCall0 HC HCin
        have kn := ks.trans (kd.mono ks.size)
        go_wp2
        exact ⟨⟨i + 1, by omega, by go_num, HOKN, kn⟩, by simp only [intOf]; omega⟩
    · have hin : i = n := by omega
      have HIN := Lib.hid hin
      have hlt2 : ¬ (i : Int) < (n : Int) := by omega
      clear hin
      go_wp2
      go_ret
      exact ⟨ret_bool' (by rw [← HIN.out, hok.out]), kw⟩

end Go.Proofs.YtflekodaiejflaaGreat
