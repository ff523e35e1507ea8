/-
  Memories (spec, chapter 5): is a memory right?
-/
import Derived.Test.YtcfkginbkammoaaL05
import Derived.Test.YtcfkginbkammoaaL04
import Derived.Deep.DeepCutAuto
namespace Go.Proofs.Ytcfkginbkammoaa
open Go.RowKit Go.Joins
set_option linter.unusedVariables false

def allB (g : Nat → Bool) : Nat → Bool
  | 0 => true
  | k + 1 => allB g k && g k
theorem allB_bad {g : Nat → Bool} {i : Nat} (h : g i = false) : ∀ n, i < n → allB g n = false
  | 0, hn => absurd hn (Nat.not_lt_zero _)
  | n + 1, hn => by
    rw [allB]
    by_cases e : i = n
    · subst e; rw [h, Bool.and_false]
    · rw [allB_bad h n (by omega), Bool.false_and]
theorem allB_at {g : Nat → Bool} : ∀ {n : Nat}, allB g n = true → ∀ i, i < n → g i = true
  | 0, _, i, hi => absurd hi (Nat.not_lt_zero _)
  | n + 1, h, i, hi => by
    rw [allB, Bool.and_eq_true] at h
    by_cases e : i = n
    · subst e; exact h.2
    · exact allB_at h.1 i (by omega)
/-- does the timer stand where it says? -/
def fitB (a b c : Int) (M : Me) (i : Nat) : Bool :=
  timerB a b c (M.t i) && ((M.t i).pl == -1 || !decide (findFrom (M.p (M.t i).pl.toNat).f (M.p (M.t i).pl.toNat).n (i : Int) 0 < 0))
/-- is the memory right? -/
def memOkB (a b c : Int) (M : Me) : Bool :=
  planB a b c && (inB M.c 0 999999999 && (!decide (c < (M.tn : Int)) && ((M.pn : Int) == a && (allB (agreeB a b c M) M.pn && allB (fitB a b c M) M.tn))))
theorem timerB_pl {a b c : Int} {t : Tm} (h : timerB a b c t = true) : t.pl = -1 ∨ 0 ≤ t.pl ∧ t.pl < a := by
  simp only [timerB, placeB, Bool.and_eq_true] at h
  have hp := h.2.2.2.2.2.2.2.2.1
  split at hp
  · have := (procB_iff.1 hp).2; exact .inr (by omega)
  · rw [Bool.or_eq_true, Bool.and_eq_true] at hp
    rcases hp with hp | ⟨_, hp⟩
    · exact .inl (by simpa using hp)
    · have := (procB_iff.1 hp).2; exact .inr (by omega)

theorem tm_cells {w : World} {b : Nat} {t : Tm} {ty : TypeId} (h : w.heap[b]? = some (.cells (tmCells t) ty (0, 0))) :
    w.cell? ⟨b, 0, none⟩ = some (.int .i64 t.st) ∧ w.cell? ⟨b, 1, none⟩ = some (.int .i64 t.wh) ∧ w.cell? ⟨b, 2, none⟩ = some (.int .i64 t.nx) ∧ w.cell? ⟨b, 3, none⟩ = some (.int .i64 t.pe) ∧ w.cell? ⟨b, 4, none⟩ = some (.int .i64 t.pl) ∧ w.cell? ⟨b, 5, none⟩ = some (.int .i64 t.ge) ∧ w.cell? ⟨b, 6, none⟩ = some (.int .i64 t.ki) ∧ w.cell? ⟨b, 7, none⟩ = some (.int .i64 t.ma) :=
  ⟨cell_of_block h 0, cell_of_block h 1, cell_of_block h 2, cell_of_block h 3, cell_of_block h 4, cell_of_block h 5, cell_of_block h 6, cell_of_block h 7⟩

set_option maxRecDepth 100000 in
set_option maxHeartbeats 8000000 in
theorem spMemOk_any (a b c : Int) {tv pv : Value} {M : Me} {w : World} (hs : sizeM M ≤ 1048576) (h : MemAt w tv pv M) :
    Calls Try.prog 13 #[.agg #[.int .i64 a, .int .i64 b, .int .i64 c], meV M.c tv pv] w fun e w' => e = .returned (.bool (memOkB a b c M)) ∧ Below w.heap.size w w' := by
  obtain ⟨htn, hpn, hsl, hns⟩ := sizeM_le hs
  obtain ⟨ta, tc, qa, qc, rfl, rfl⟩ := h.form
  have k0 := (Below.refl w.heap.size w).alloc (Nat.le_refl _) (.cells #[.int .i64 a, .int .i64 b, .int .i64 c] 34)
  have e0 : (w.alloc (.cells #[.int .i64 a, .int .i64 b, .int .i64 c] 34)).heap.size = w.heap.size + 1 := by simp
  have k1 := k0.alloc (by omega) (memO M.c (.slice ta M.tn tc) (.slice qa M.pn qc) 39)
  have hPv := alloc_block (memO M.c (.slice ta M.tn tc) (.slice qa M.pn qc) 39) (heap_alloc_new w (.cells #[.int .i64 a, .int .i64 b, .int .i64 c] 34))
  have hMv := heap_alloc_new (w.alloc (.cells #[.int .i64 a, .int .i64 b, .int .i64 c] 34)) (memO M.c (.slice ta M.tn tc) (.slice qa M.pn qc) 39)
  rw [e0] at hMv
  have HM := Lib.hid h
  have HS := Lib.hid hs
  clear h k0 e0 hsl hns hs
  cases hp : planB a b c
  · rw [show memOkB a b c M = false by unfold memOkB; rw [hp, Bool.false_and]]
    have HP := Lib.hid hp
    clear hp
    go_enter Try.func13, Try.ntmps13
    go_wp2_with fail
    go_at_call 28; refine (spPlanOk_any _ _ _ _).mono ?_; rw [HP.out]; rintro x w1 ⟨rfl, hb⟩
    go_wp2
    go_ret
    exact ⟨rfl, k1.trans (hb.mono k1.size)⟩
  have HP := Lib.hid hp
  cases hc : inB M.c 0 999999999
  · rw [show memOkB a b c M = false by unfold memOkB; rw [hc, Bool.false_and, Bool.and_false]]
    have HC := Lib.hid hc
    clear hp hc
    go_enter Try.func13, Try.ntmps13
    go_wp2_with fail
    go_at_call 28; refine (spPlanOk_any _ _ _ _).mono ?_; rw [HP.out]; rintro x w1 ⟨rfl, hb⟩
    have hM1 := b_block hb hMv (lt_of_block hMv)
    obtain ⟨m0, m1, m2, _, _, _⟩ := three hM1
    go_wp2_with fail
    go_at_call 29; refine (l1In_any _ _ _ _).mono ?_; rw [HC.out]; rintro x w1 ⟨rfl, rfl⟩
    go_wp2
    go_ret
    exact ⟨rfl, k1.trans (hb.mono k1.size)⟩
  have HC := Lib.hid hc
  by_cases hct : c < (M.tn : Int)
  · rw [show memOkB a b c M = false by unfold memOkB; rw [hp, hc]; simp [hct]]
    have bct : decide (c < (M.tn : Int)) = true := by simpa using hct
    clear hp hc
    go_enter Try.func13, Try.ntmps13
    go_wp2_with fail
    go_at_call 28; refine (spPlanOk_any _ _ _ _).mono ?_; rw [HP.out]; rintro x w1 ⟨rfl, hb⟩
    have hM1 := b_block hb hMv (lt_of_block hMv)
    obtain ⟨m0, m1, m2, _, _, _⟩ := three hM1
    have hP1 := b_block hb hPv (lt_of_block hPv)
    obtain ⟨p0, p1, p2, _, _, _⟩ := three hP1
    go_wp2_with fail
    go_at_call 29; refine (l1In_any _ _ _ _).mono ?_; rw [HC.out]; rintro x w1 ⟨rfl, rfl⟩
    go_wp2
    go_ret
    exact ⟨rfl, k1.trans (hb.mono k1.size)⟩
  have bct : decide (c < (M.tn : Int)) = false := by simpa using hct
  by_cases hpa : (M.pn : Int) = a
  · have hval : memOkB a b c M = (allB (agreeB a b c M) M.pn && allB (fitB a b c M) M.tn) := by unfold memOkB; rw [hp, hc, bct]; simp [hpa]
    rw [hval]
    clear hp hc hval
    subst hpa
    have bpa : ((M.pn : Int) == (M.pn : Int)) = true := by simp
    go_enter Try.func13, Try.ntmps13
    go_wp2_with fail
    go_at_call 28; refine (spPlanOk_any _ _ _ _).mono ?_; rw [HP.out]; rintro x W1 ⟨rfl, hb⟩
    have hM1 := b_block hb hMv (lt_of_block hMv)
    have hP1 := b_block hb hPv (lt_of_block hPv)
    have kr := k1.trans (hb.mono k1.size)
    have HM1 := Lib.hid (HM.out.below kr)
    have lM := lt_of_block hM1
    have lP := lt_of_block hP1
    have HMB := Lib.hid hM1
    have HPB := Lib.hid hP1
    clear hb hMv hPv k1
    obtain ⟨m0, m1, m2, _, _, _⟩ := three hM1
    obtain ⟨p0, p1, p2, _, _, _⟩ := three hP1
    clear hM1 hP1
    go_wp2_with fail
    go_at_call 29; refine (l1In_any _ _ _ _).mono ?_; rw [HC.out]; rintro x w1 ⟨rfl, rfl⟩
    go_wp2_with fail
    go_loopw [5] (fun i' wr => ∃ k : Nat, k ≤ M.pn ∧ i' = .int .i64 k ∧ allB (agreeB M.pn b c M) k = true ∧ Below W1.heap.size W1 wr) (fun i' _ => M.pn - (intOf i').toNat)
    case atStart => exact ⟨0, Nat.zero_le _, rfl, rfl, Below.refl _ _⟩
    case round =>
      obtain ⟨k, hk, rfl, hok, hbr⟩ := hrel
      clear m0 m1 m2 p0 p1 p2
      obtain ⟨p0, p1, p2, _, _, _⟩ := three (b_block hbr HPB.out lP)
      obtain ⟨m0, m1, m2, _, _, _⟩ := three (b_block hbr HMB.out lM)
      by_cases hlt : k < M.pn
      · have i1 : (k : Int) < (M.pn : Int) := by omega
        have i0 : (0 : Int) ≤ (k : Int) := by omega
        have HOK := Lib.hid hok
        have CP := l5Proc_any (M.pn : Int) b c (k := k) hlt HS.out (HM1.out.below hbr)
        have HCP := Lib.hid CP
        clear hok CP
        cases hag : agreeB (M.pn : Int) b c M k
        · have HBAD := Lib.hid (show (allB (agreeB M.pn b c M) M.pn && allB (fitB M.pn b c M) M.tn) = false by rw [allB_bad hag _ hlt, Bool.false_and])
          have HAG := Lib.hid hag
          clear hag
          go_wp2_with fail
          go_at_call 30; refine HCP.out.mono ?_; rw [HAG.out]; rintro x w2 ⟨rfl, hb⟩
          go_wp2
          go_ret
          exact ⟨ret_bool' (by rw [HBAD.out]), kr.trans ((hbr.trans (hb.mono hbr.size)).mono kr.size)⟩
        · have HOKN := Lib.hid (show allB (agreeB M.pn b c M) (k + 1) = true by rw [allB, HOK.out, hag]; rfl)
          have HAG := Lib.hid hag
          clear hag
          go_wp2_with fail
          go_at_call 30; refine HCP.out.mono ?_; rw [HAG.out]; rintro x w2 ⟨rfl, hb⟩
          have hbn := hbr.trans (hb.mono hbr.size)
          clear hb
          go_wp2
          exact ⟨⟨k + 1, by omega, by go_num, HOKN.out, hbn⟩, by simp only [intOf]; omega⟩
      · have hkn : k = M.pn := by omega
        subst hkn
        have HALL := Lib.hid hok
        have hge : ¬ ((M.pn : Nat) : Int) < ((M.pn : Nat) : Int) := by omega
        clear hok hlt hk
        go_wp2_with fail
        go_loopw [6] (fun i' ws => ∃ i : Nat, i ≤ M.tn ∧ i' = .int .i64 i ∧ allB (fitB M.pn b c M) i = true ∧ Below W1.heap.size W1 ws) (fun i' _ => M.tn - (intOf i').toNat)
        case atStart => exact ⟨0, Nat.zero_le _, rfl, rfl, hbr⟩
        case round =>
          obtain ⟨i, hi, rfl, hok2, hbq⟩ := hrel
          clear m0 m1 m2 p0 p1 p2
          obtain ⟨m0, m1, m2, _, _, _⟩ := three (b_block hbq HMB.out lM)
          by_cases hlt : i < M.tn
          · have i1 : (i : Int) < (M.tn : Int) := by omega
            have i0 : (0 : Int) ≤ (i : Int) := by omega
            have HOK2 := Lib.hid hok2
            rcases HM1.out.1 with ⟨h0, _⟩ | ⟨tb, tof, tcap, ev, htb, htc⟩
            · omega
            injection ev with ev1 ev2 ev3
            subst ev1 ev3
            obtain ⟨d0, d1, d2, d3, d4, d5, d6, d7⟩ := cells8 (w := _) (b := tb) (o := tof + i * 8) (t := M.t i) (fun q hq => (hbq.cell (p := ⟨tb, tof + i * 8 + q, none⟩) htb).trans (htc i hlt q hq))
            have hTv := heap_alloc_new wr (.cells (tmCells (M.t i)) 70)
            have hbT := b_alloc1 (o := (.cells (tmCells (M.t i)) 70)) hbq
            obtain ⟨p0, p1, p2, _, _, _⟩ := three (b_block hbT HPB.out lP)
            clear hok2 htc m0 m1 m2
            obtain ⟨m0, m1, m2, _, _, _⟩ := three (b_block hbq HMB.out lM)
            cases hf : timerB (M.pn : Int) b c (M.t i)
            · have HF := Lib.hid hf
              have HBAD := Lib.hid (show (allB (agreeB M.pn b c M) M.pn && allB (fitB M.pn b c M) M.tn) = false by rw [allB_bad (i := i) (by unfold fitB; rw [hf, Bool.false_and]) _ hlt, Bool.and_false])
              clear hf
              go_wp2_with fail
              go_at_call 31; refine (spTimerOk_any _ _ _ (M.t i) _).mono ?_; rw [HF.out]; rintro x w2 ⟨rfl, hb⟩
              have hb2 := hbT.trans (hb.mono hbT.size)
              clear m0 m1 m2
              obtain ⟨t0, t1, t2, t3, t4, t5, t6, t7⟩ := tm_cells (t := M.t i) (b_block hb hTv (lt_of_block hTv))
              obtain ⟨m0, m1, m2, _, _, _⟩ := three (b_block hb2 HMB.out lM)
              go_wp2
              go_ret
              exact ⟨ret_bool' (by rw [HBAD.out]), kr.trans (hb2.mono kr.size)⟩
            · have HF := Lib.hid hf
              rcases timerB_pl hf with hpl | ⟨q0, q1⟩
              · have bpl : ((M.t i).pl == -1) = true := by rw [hpl]; decide
                have bpln : ((M.t i).pl != -1) = false := by rw [bne, bpl]; rfl
                have HOKN := Lib.hid (show allB (fitB M.pn b c M) (i + 1) = true by rw [allB, HOK2.out]; unfold fitB; rw [HF.out, bpl]; rfl)
                clear hf hpl
                go_wp2_with fail
                go_at_call 31; refine (spTimerOk_any _ _ _ (M.t i) _).mono ?_; rw [HF.out]; rintro x w2 ⟨rfl, hb⟩
                have hb2 := hbT.trans (hb.mono hbT.size)
                clear m0 m1 m2
                obtain ⟨t0, t1, t2, t3, t4, t5, t6, t7⟩ := tm_cells (t := M.t i) (b_block hb hTv (lt_of_block hTv))
                obtain ⟨m0, m1, m2, _, _, _⟩ := three (b_block hb2 HMB.out lM)
                go_wp2
                exact ⟨⟨i + 1, by omega, by go_num, HOKN.out, hb2⟩, by simp only [intOf]; omega⟩
              · obtain ⟨j, hj⟩ : ∃ j : Nat, (M.t i).pl = (j : Int) := ⟨(M.t i).pl.toNat, by omega⟩
                have hjn : (M.t i).pl.toNat = j := by omega
                have hjl : j < M.pn := by omega
                have ij0 : (0 : Int) ≤ (j : Int) := by omega
                have ij1 : (j : Int) < (M.pn : Int) := by omega
                have bpl : ((j : Int) == -1) = false := beq_eq_false_iff_ne.2 (by omega)
                have bpl2 : ((M.t i).pl == -1) = false := by rw [hj]; exact bpl
                have bpln : ((j : Int) != -1) = true := by rw [bne, bpl]; rfl
                rcases HM1.out.2 with ⟨h0, _⟩ | ⟨pb, po, pcap, ev, hpb, hpc⟩
                · omega
                injection ev with ev1 ev2 ev3
                subst ev1 ev3
                have hns := (sizeM_le HS.out).2.2.2 j hjl
                have HPC := Lib.hid (hpc j hjl)
                have HJN := Lib.hid hjn
                have HJ := Lib.hid hj
                clear hf q0 q1 hpc hjn hj
                by_cases hr : findFrom (M.p j).f (M.p j).n (i : Int) 0 < 0
                · have br : decide (findFrom (M.p j).f (M.p j).n (i : Int) 0 < 0) = true := by simpa using hr
                  have HBAD := Lib.hid (show (allB (agreeB M.pn b c M) M.pn && allB (fitB M.pn b c M) M.tn) = false by rw [allB_bad (i := i) (by unfold fitB; rw [HJN.out, HF.out, bpl2, br]; rfl) _ hlt, Bool.and_false])
                  clear hr bpl2
                  go_wp2_with fail
                  go_at_call 31; refine (spTimerOk_any _ _ _ (M.t i) _).mono ?_; rw [HF.out]; rintro x w2 ⟨rfl, hb⟩
                  have hb2 := hbT.trans (hb.mono hbT.size)
                  clear m0 m1 m2
                  obtain ⟨t0, t1, t2, t3, t4, t5, t6, t7⟩ := tm_cells (t := M.t i) (b_block hb hTv (lt_of_block hTv))
                  obtain ⟨m0, m1, m2, _, _, _⟩ := three (b_block hb2 HMB.out lM)
                  obtain ⟨xa, xc, c0, c1, c2, c3, hrow⟩ := HPC.out.below hpb hb2
                  rw [HJ.out] at t4
                  have HROW := Lib.hid hrow
                  clear hrow
                  go_wp2_with fail
                  go_at_call 32; refine (spFindSlot_any _ _ hns HROW.out).mono ?_; rintro x w3 ⟨rfl, rfl⟩
                  go_wp2
                  go_ret
                  exact ⟨ret_bool' (by rw [HBAD.out]), kr.trans (hb2.mono kr.size)⟩
                · have br : decide (findFrom (M.p j).f (M.p j).n (i : Int) 0 < 0) = false := by simpa using hr
                  have HOKN := Lib.hid (show allB (fitB M.pn b c M) (i + 1) = true by rw [allB, HOK2.out]; unfold fitB; rw [HJN.out, HF.out, bpl2, br]; rfl)
                  clear hr bpl2
                  go_wp2_with fail
                  go_at_call 31; refine (spTimerOk_any _ _ _ (M.t i) _).mono ?_; rw [HF.out]; rintro x w2 ⟨rfl, hb⟩
                  have hb2 := hbT.trans (hb.mono hbT.size)
                  clear m0 m1 m2
                  obtain ⟨t0, t1, t2, t3, t4, t5, t6, t7⟩ := tm_cells (t := M.t i) (b_block hb hTv (lt_of_block hTv))
                  obtain ⟨m0, m1, m2, _, _, _⟩ := three (b_block hb2 HMB.out lM)
                  obtain ⟨xa, xc, c0, c1, c2, c3, hrow⟩ := HPC.out.below hpb hb2
                  rw [HJ.out] at t4
                  have HROW := Lib.hid hrow
                  clear hrow
                  go_wp2_with fail
                  go_at_call 32; refine (spFindSlot_any _ _ hns HROW.out).mono ?_; rintro x w3 ⟨rfl, rfl⟩
                  go_wp2
                  exact ⟨⟨i + 1, by omega, by go_num, HOKN.out, hb2⟩, by simp only [intOf]; omega⟩
          · have hin : i = M.tn := by omega
            have HOK2 := Lib.hid hok2
            have HIN := Lib.hid hin
            have hlt2 : ¬ (i : Int) < (M.tn : Int) := by omega
            clear hok2 hin
            go_wp2
            go_ret
            exact ⟨ret_bool' (by rw [HALL.out, ← HIN.out, HOK2.out]; rfl), kr.trans (hbq.mono kr.size)⟩
  · have bpa : ((M.pn : Int) == a) = false := beq_eq_false_iff_ne.2 hpa
    rw [show memOkB a b c M = false by unfold memOkB; rw [hp, hc, bct, bpa]; simp]
    clear hp hc
    go_enter Try.func13, Try.ntmps13
    go_wp2_with fail
    go_at_call 28; refine (spPlanOk_any _ _ _ _).mono ?_; rw [HP.out]; rintro x w1 ⟨rfl, hb⟩
    have hM1 := b_block hb hMv (lt_of_block hMv)
    obtain ⟨m0, m1, m2, _, _, _⟩ := three hM1
    have hP1 := b_block hb hPv (lt_of_block hPv)
    obtain ⟨p0, p1, p2, _, _, _⟩ := three hP1
    go_wp2_with fail
    go_at_call 29; refine (l1In_any _ _ _ _).mono ?_; rw [HC.out]; rintro x w1 ⟨rfl, rfl⟩
    go_wp2
    go_ret
    exact ⟨rfl, k1.trans (hb.mono k1.size)⟩

end Go.Proofs.Ytcfkginbkammoaa

/-
  Memories (spec, chapter 5): when is the first of all processors to wake?
-/
namespace Go.Proofs.Ytcfkginbkammoaa
open Go.RowKit Go.Joins
set_option linter.unusedVariables false

def stepW (best n : Int) : Int := if 0 ≤ n ∧ (best < 0 ∨ n < best) then n else best
def bestW (P : Pcs) : Nat → Int
  | 0 => -1
  | k + 1 => stepW (bestW P k) (wakeI (P k).f (P k).n (P k).e)
def wakeAllI (a b c : Int) (M : Me) : Int := if memOkB a b c M = true then bestW M.p M.pn else -1

end Go.Proofs.Ytcfkginbkammoaa

/-
  The exact laws on a memory whose answer is a truth value or a number, told what the program answers.
-/
namespace Go.Proofs.Ytcfkginbkammoaa
open Go.RowKit Go.Joins
set_option linter.unusedVariables false

/-- what the program's function of a plan and a memory is to answer -/
def AsksMB (fn : FuncId) (g : Int → Int → Int → Me → Bool) : Prop := ∀ (a b c : Int) (tv pv : Value) (M : Me) (w : World), sizeM M ≤ 1048576 → MemAt w tv pv M → Calls Try.prog fn #[.agg #[.int .i64 a, .int .i64 b, .int .i64 c], meV M.c tv pv] w fun x w' => x = .returned (.bool (g a b c M)) ∧ Below w.heap.size w w'
def AsksMI (fn : FuncId) (g : Int → Int → Int → Me → Int) : Prop := ∀ (a b c : Int) (tv pv : Value) (M : Me) (w : World), sizeM M ≤ 1048576 → MemAt w tv pv M → Calls Try.prog fn #[.agg #[.int .i64 a, .int .i64 b, .int .i64 c], meV M.c tv pv] w fun x w' => x = .returned (.int .i64 (g a b c M)) ∧ Below w.heap.size w w'

end Go.Proofs.Ytcfkginbkammoaa

/-
  The exact laws on a memory whose answer is a memory, told what the program answers: Elapsed.
-/
namespace Go.Proofs.Ytcfkginbkammoaa
open Go.RowKit Go.Joins
set_option linter.unusedVariables false

/-- what the program's function of a plan, a memory and a number is to answer: a new memory -/
def AsksMM (fn : FuncId) (g : Int → Int → Int → Int → Me → Me) : Prop := ∀ (a b c d : Int) (tv pv : Value) (M : Me) (w : World), sizeM M ≤ 1048576 → MemAt w tv pv M → Calls Try.prog fn #[.agg #[.int .i64 a, .int .i64 b, .int .i64 c], meV M.c tv pv, .int .i64 d] w (NewMe (g a b c d M) w)
/-- a variable of the law's own that holds a memory -/
def VarAt (w : World) (b : Nat) (N : Me) (tv pv : Value) : Prop := w.heap[b]? = some (memO N.c tv pv 39) ∧ MemAt w tv pv N
theorem Mid.belowN {B C n : Nat} {w w' : World} (h : Mid B C w w') (hn : n ≤ B) (hw : n ≤ w.heap.size) : Below n w w' := ⟨h.os, h.tape, h.output, h.size, fun k hk => h.block k (by omega) (.inl (by omega))⟩
theorem OwnMem.setVar {w : World} {B b : Nat} {tv pv : Value} {N : Me} {cs : Array Value} (h : OwnMem w B tv pv N) (hz : w.heap[b]? = some (.cells cs 39 (0, 0))) (x y z : Value) :
    OwnMemIn (((w.setCell ⟨b, 0, none⟩ x).setCell ⟨b, 1, none⟩ y).setCell ⟨b, 2, none⟩ z) B w.heap.size tv pv N := by
  have s1 := (KeepsBut.refl [39] w).set hz (by decide) 0 x
  have s2 := s1.set (block_setCell (i := 0) hz x) (by decide) 1 y
  have s3 := s2.set (block_setCell (i := 1) (block_setCell (i := 0) hz x) y) (by decide) 2 z
  exact ⟨h.inn.1.keeps s3 (by decide), h.inn.2.keeps s3 (by decide) (by decide)⟩

end Go.Proofs.Ytcfkginbkammoaa
