/-
  Memories (spec, chapter 5): is a memory right?
-/
import Derived.Test.YtnmaljieaflnmaaL04
import Derived.Test.YtnmaljieaflnmaaL02
import Derived.Test.YtnmaljieaflnmaaL03
namespace Go.Proofs.Ytnmaljieaflnmaa
open Go.RowKit Go.Joins
set_option linter.unusedVariables false

def allB (g : Nat → Bool) : Nat → Bool
  | 0 => true
  | k + 1 => allB g k && g k
theorem allB_bad {g : Nat → Bool} {i : Nat} (h : g i = false) : ∀ n, i < n → allB g n = false
  | 0, hn => absurd hn (Nat.not_lt_zero _)
  | n + 1, hn => by
    rw [allB]
    by_cases e : i = n
    · subst e; rw [h, Bool.and_false]
    · rw [allB_bad h n (by omega), Bool.false_and]
theorem allB_at {g : Nat → Bool} : ∀ {n : Nat}, allB g n = true → ∀ i, i < n → g i = true
  | 0, _, i, hi => absurd hi (Nat.not_lt_zero _)
  | n + 1, h, i, hi => by
    rw [allB, Bool.and_eq_true] at h
    by_cases e : i = n
    · subst e; exact h.2
    · exact allB_at h.1 i (by omega)
/-- does the timer stand where it says? -/
def fitB (a b c : Int) (M : Me) (i : Nat) : Bool :=
  timerB a b c (M.t i) && ((M.t i).pl == -1 || !decide (findFrom (M.p (M.t i).pl.toNat).f (M.p (M.t i).pl.toNat).n (i : Int) 0 < 0))
/-- is the memory right? -/
def memOkB (a b c : Int) (M : Me) : Bool :=
  planB a b c && (inB M.c 0 999999999 && (!decide (c < (M.tn : Int)) && ((M.pn : Int) == a && (allB (agreeB a b c M) M.pn && allB (fitB a b c M) M.tn))))
theorem timerB_pl {a b c : Int} {t : Tm} (h : timerB a b c t = true) : t.pl = -1 ∨ 0 ≤ t.pl ∧ t.pl < a := by
  simp only [timerB, placeB, Bool.and_eq_true] at h
  have hp := h.2.2.2.2.2.2.2.2.1
  split at hp
  · have := (procB_iff.1 hp).2; exact .inr (by omega)
  · rw [Bool.or_eq_true, Bool.and_eq_true] at hp
    rcases hp with hp | ⟨_, hp⟩
    · exact .inl (by simpa using hp)
    · have := (procB_iff.1 hp).2; exact .inr (by omega)

theorem tm_cells {w : World} {b : Nat} {t : Tm} {ty : TypeId} (h : w.heap[b]? = some (.cells (tmCells t) ty (0, 0))) :
    w.cell? ⟨b, 0, none⟩ = some (.int .i64 t.st) ∧ w.cell? ⟨b, 1, none⟩ = some (.int .i64 t.wh) ∧ w.cell? ⟨b, 2, none⟩ = some (.int .i64 t.nx) ∧ w.cell? ⟨b, 3, none⟩ = some (.int .i64 t.pe) ∧ w.cell? ⟨b, 4, none⟩ = some (.int .i64 t.pl) ∧ w.cell? ⟨b, 5, none⟩ = some (.int .i64 t.ge) ∧ w.cell? ⟨b, 6, none⟩ = some (.int .i64 t.ki) ∧ w.cell? ⟨b, 7, none⟩ = some (.int .i64 t.ma) :=
  ⟨cell_of_block h 0, cell_of_block h 1, cell_of_block h 2, cell_of_block h 3, cell_of_block h 4, cell_of_block h 5, cell_of_block h 6, cell_of_block h 7⟩

set_option maxRecDepth 100000 in
set_option maxHeartbeats 8000000 in
theorem spMemOk_any (a b c : Int) {tv pv : Value} {M : Me} {w : World} (hs : sizeM M ≤ 1048576) (h : MemAt w tv pv M) :
    Calls Try.prog 21 #[.agg #[.int .i64 a, .int .i64 b, .int .i64 c], meV M.c tv pv] w fun e w' => e = .returned (.bool (memOkB a b c M)) ∧ Below w.heap.size w w' := by
  obtain ⟨htn, hpn, hsl, hns⟩ := sizeM_le hs
  obtain ⟨ta, tc, qa, qc, rfl, rfl⟩ := h.form
  have k0 := (Below.refl w.heap.size w).alloc (Nat.le_refl _) (.cells #[.int .i64 a, .int .i64 b, .int .i64 c] 25)
  have e0 : (w.alloc (.cells #[.int .i64 a, .int .i64 b, .int .i64 c] 25)).heap.size = w.heap.size + 1 := by simp
  have k1 := k0.alloc (by omega) (memO M.c (.slice ta M.tn tc) (.slice qa M.pn qc) 54)
  have hPv := alloc_block (memO M.c (.slice ta M.tn tc) (.slice qa M.pn qc) 54) (heap_alloc_new w (.cells #[.int .i64 a, .int .i64 b, .int .i64 c] 25))
  have hMv := heap_alloc_new (w.alloc (.cells #[.int .i64 a, .int .i64 b, .int .i64 c] 25)) (memO M.c (.slice ta M.tn tc) (.slice qa M.pn qc) 54)
  rw [e0] at hMv
  have HM := Lib.hid h
  have HS := Lib.hid hs
  clear h k0 e0 hsl hns hs
  cases hp : planB a b c
  · rw [show memOkB a b c M = false by unfold memOkB; rw [hp, Bool.false_and]]
    have HP := Lib.hid hp
    clear hp
    go_enter Try.func21, Try.ntmps21
    go_wp2_with fail
    go_at_call 52; refine (spPlanOk_any _ _ _ _).mono ?_; rw [HP.out]; rintro x w1 ⟨rfl, hb⟩
    go_wp2
    go_ret
    exact ⟨rfl, k1.trans (hb.mono k1.size)⟩
  have HP := Lib.hid hp
  cases hc : inB M.c 0 999999999
  · rw [show memOkB a b c M = false by unfold memOkB; rw [hc, Bool.false_and, Bool.and_false]]
    have HC := Lib.hid hc
    clear hp hc
    go_enter Try.func21, Try.ntmps21
    go_wp2_with fail
    go_at_call 52; refine (spPlanOk_any _ _ _ _).mono ?_; rw [HP.out]; rintro x w1 ⟨rfl, hb⟩
    have hM1 := b_block hb hMv (lt_of_block hMv)
    obtain ⟨m0, m1, m2, _, _, _⟩ := three hM1
    go_wp2_with fail
    go_at_call 56; refine (l1In_any _ _ _ _).mono ?_; rw [HC.out]; rintro x w1 ⟨rfl, rfl⟩
    go_wp2
    go_ret
    exact ⟨rfl, k1.trans (hb.mono k1.size)⟩
  have HC := Lib.hid hc
  by_cases hct : c < (M.tn : Int)
  · rw [show memOkB a b c M = false by unfold memOkB; rw [hp, hc]; simp [hct]]
    have bct : decide (c < (M.tn : Int)) = true := by simpa using hct
    clear hp hc
    go_enter Try.func21, Try.ntmps21
    go_wp2_with fail
    go_at_call 52; refine (spPlanOk_any _ _ _ _).mono ?_; rw [HP.out]; rintro x w1 ⟨rfl, hb⟩
    have hM1 := b_block hb hMv (lt_of_block hMv)
    obtain ⟨m0, m1, m2, _, _, _⟩ := three hM1
    have hP1 := b_block hb hPv (lt_of_block hPv)
    obtain ⟨p0, p1, p2, _, _, _⟩ := three hP1
    go_wp2_with fail
    go_at_call 56; refine (l1In_any _ _ _ _).mono ?_; rw [HC.out]; rintro x w1 ⟨rfl, rfl⟩
    go_wp2
    go_ret
    exact ⟨rfl, k1.trans (hb.mono k1.size)⟩
  have bct : decide (c < (M.tn : Int)) = false := by simpa using hct
  by_cases hpa : (M.pn : Int) = a
  · have hval : memOkB a b c M = (allB (agreeB a b c M) M.pn && allB (fitB a b c M) M.tn) := by unfold memOkB; rw [hp, hc, bct]; simp [hpa]
    rw [hval]
    clear hp hc hval
    subst hpa
    have bpa : ((M.pn : Int) == (M.pn : Int)) = true := by simp
    go_enter Try.func21, Try.ntmps21
    go_wp2_with fail
    go_at_call 52; refine (spPlanOk_any _ _ _ _).mono ?_; rw [HP.out]; rintro x W1 ⟨rfl, hb⟩
    have hM1 := b_block hb hMv (lt_of_block hMv)
    have hP1 := b_block hb hPv (lt_of_block hPv)
    have kr := k1.trans (hb.mono k1.size)
    have HM1 := Lib.hid (HM.out.below kr)
    have lM := lt_of_block hM1
    have lP := lt_of_block hP1
    have HMB := Lib.hid hM1
    have HPB := Lib.hid hP1
    clear hb hMv hPv k1
    obtain ⟨m0, m1, m2, _, _, _⟩ := three hM1
    obtain ⟨p0, p1, p2, _, _, _⟩ := three hP1
    clear hM1 hP1
    go_wp2_with fail
    go_at_call 56; refine (l1In_any _ _ _ _).mono ?_; rw [HC.out]; rintro x w1 ⟨rfl, rfl⟩
    go_wp2_with fail
    go_loopw [5] (fun i' wr => ∃ k : Nat, k ≤ M.pn ∧ i' = .int .i64 k ∧ allB (agreeB M.pn b c M) k = true ∧ Below W1.heap.size W1 wr) (fun i' _ => M.pn - (intOf i').toNat)
    case atStart => exact ⟨0, Nat.zero_le _, rfl, rfl, Below.refl _ _⟩
    case round =>
      obtain ⟨k, hk, rfl, hok, hbr⟩ := hrel
      clear m0 m1 m2 p0 p1 p2
      obtain ⟨p0, p1, p2, _, _, _⟩ := three (b_block hbr HPB.out lP)
      obtain ⟨m0, m1, m2, _, _, _⟩ := three (b_block hbr HMB.out lM)
      by_cases hlt : k < M.pn
      · have i1 : (k : Int) < (M.pn : Int) := by omega
        have i0 : (0 : Int) ≤ (k : Int) := by omega
        have HOK := Lib.hid hok
        have CP := l5Proc_any (M.pn : Int) b c (k := k) hlt HS.out (HM1.out.below hbr)
        have HCP := Lib.hid CP
        clear hok CP
        cases hag : agreeB (M.pn : Int) b c M k
        · have HBAD := Lib.hid (show (allB (agreeB M.pn b c M) M.pn && allB (fitB M.pn b c M) M.tn) = false by rw [allB_bad hag _ hlt, Bool.false_and])
          have HAG := Lib.hid hag
          clear hag
          go_wp2_with fail
          go_at_call 64; refine HCP.out.mono ?_; rw [HAG.out]; rintro x w2 ⟨rfl, hb⟩
          go_wp2
          go_ret
          exact ⟨ret_bool' (by rw [HBAD.out]), kr.trans ((hbr.trans (hb.mono hbr.size)).mono kr.size)⟩
        · have HOKN := Lib.hid (show allB (agreeB M.pn b c M) (k + 1) = true by rw [allB, HOK.out, hag]; rfl)
          have HAG := Lib.hid hag
          clear hag
          go_wp2_with fail
          go_at_call 64; refine HCP.out.mono ?_; rw [HAG.out]; rintro x w2 ⟨rfl, hb⟩
          have hbn := hbr.trans (hb.mono hbr.size)
          clear hb
          go_wp2
          exact ⟨⟨k + 1, by omega, by go_num, HOKN.out, hbn⟩, by simp only [intOf]; omega⟩
      · have hkn : k = M.pn := by omega
        subst hkn
        have HALL := Lib.hid hok
        have hge : ¬ ((M.pn : Nat) : Int) < ((M.pn : Nat) : Int) := by omega
        clear hok hlt hk
        go_wp2_with fail
        go_loopw [6] (fun i' ws => ∃ i : Nat, i ≤ M.tn ∧ i' = .int .i64 i ∧ allB (fitB M.pn b c M) i = true ∧ Below W1.heap.size W1 ws) (fun i' _ => M.tn - (intOf i').toNat)
        case atStart => exact ⟨0, Nat.zero_le _, rfl, rfl, hbr⟩
        case round =>
          obtain ⟨i, hi, rfl, hok2, hbq⟩ := hrel
          clear m0 m1 m2 p0 p1 p2
          obtain ⟨m0, m1, m2, _, _, _⟩ := three (b_block hbq HMB.out lM)
          by_cases hlt : i < M.tn
          · have i1 : (i : Int) < (M.tn : Int) := by omega
            have i0 : (0 : Int) ≤ (i : Int) := by omega
            have HOK2 := Lib.hid hok2
            rcases HM1.out.1 with ⟨h0, _⟩ | ⟨tb, to, tcap, ev, htb, htc⟩
            · omega
            injection ev with ev1 ev2 ev3
            subst ev1 ev3
            obtain ⟨d0, d1, d2, d3, d4, d5, d6, d7⟩ := cells8 (w := _) (b := tb) (o := to + i * 8) (t := M.t i) (fun q hq => (hbq.cell (p := ⟨tb, to + i * 8 + q, none⟩) htb).trans (htc i hlt q hq))
            have hTv := heap_alloc_new wr (.cells (tmCells (M.t i)) 96)
            have hbT := b_alloc1 (o := (.cells (tmCells (M.t i)) 96)) hbq
            obtain ⟨p0, p1, p2, _, _, _⟩ := three (b_block hbT HPB.out lP)
            clear hok2 htc m0 m1 m2
            obtain ⟨m0, m1, m2, _, _, _⟩ := three (b_block hbq HMB.out lM)
            cases hf : timerB (M.pn : Int) b c (M.t i)
            · have HF := Lib.hid hf
              have HBAD := Lib.hid (show (allB (agreeB M.pn b c M) M.pn && allB (fitB M.pn b c M) M.tn) = false by rw [allB_bad (i := i) (by unfold fitB; rw [hf, Bool.false_and]) _ hlt, Bool.and_false])
              clear hf
              go_wp2_with fail
              go_at_call 65; refine (spTimerOk_any _ _ _ (M.t i) _).mono ?_; rw [HF.out]; rintro x w2 ⟨rfl, hb⟩
              have hb2 := hbT.trans (hb.mono hbT.size)
              clear m0 m1 m2
              obtain ⟨t0, t1, t2, t3, t4, t5, t6, t7⟩ := tm_cells (t := M.t i) (b_block hb hTv (lt_of_block hTv))
              obtain ⟨m0, m1, m2, _, _, _⟩ := three (b_block hb2 HMB.out lM)
              go_wp2
              go_ret
              exact ⟨ret_bool' (by rw [HBAD.out]), kr.trans (hb2.mono kr.size)⟩
            · have HF := Lib.hid hf
              rcases timerB_pl hf with hpl | ⟨q0, q1⟩
              · have bpl : ((M.t i).pl == -1) = true := by rw [hpl]; decide
                have bpln : ((M.t i).pl != -1) = false := by rw [bne, bpl]; rfl
                have HOKN := Lib.hid (show allB (fitB M.pn b c M) (i + 1) = true by rw [allB, HOK2.out]; unfold fitB; rw [HF.out, bpl]; rfl)
                clear hf hpl
                go_wp2_with fail
                go_at_call 65; refine (spTimerOk_any _ _ _ (M.t i) _).mono ?_; rw [HF.out]; rintro x w2 ⟨rfl, hb⟩
                have hb2 := hbT.trans (hb.mono hbT.size)
                clear m0 m1 m2
                obtain ⟨t0, t1, t2, t3, t4, t5, t6, t7⟩ := tm_cells (t := M.t i) (b_block hb hTv (lt_of_block hTv))
                obtain ⟨m0, m1, m2, _, _, _⟩ := three (b_block hb2 HMB.out lM)
                go_wp2
                exact ⟨⟨i + 1, by omega, by go_num, HOKN.out, hb2⟩, by simp only [intOf]; omega⟩
              · obtain ⟨j, hj⟩ : ∃ j : Nat, (M.t i).pl = (j : Int) := ⟨(M.t i).pl.toNat, by omega⟩
                have hjn : (M.t i).pl.toNat = j := by omega
                have hjl : j < M.pn := by omega
                have ij0 : (0 : Int) ≤ (j : Int) := by omega
                have ij1 : (j : Int) < (M.pn : Int) := by omega
                have bpl : ((j : Int) == -1) = false := beq_eq_false_iff_ne.2 (by omega)
                have bpl2 : ((M.t i).pl == -1) = false := by rw [hj]; exact bpl
                have bpln : ((j : Int) != -1) = true := by rw [bne, bpl]; rfl
                rcases HM1.out.2 with ⟨h0, _⟩ | ⟨pb, po, pcap, ev, hpb, hpc⟩
                · omega
                injection ev with ev1 ev2 ev3
                subst ev1 ev3
                have hns := (sizeM_le HS.out).2.2.2 j hjl
                have HPC := Lib.hid (hpc j hjl)
                have HJN := Lib.hid hjn
                have HJ := Lib.hid hj
                clear hf q0 q1 hpc hjn hj
                by_cases hr : findFrom (M.p j).f (M.p j).n (i : Int) 0 < 0
                · have br : decide (findFrom (M.p j).f (M.p j).n (i : Int) 0 < 0) = true := by simpa using hr
                  have HBAD := Lib.hid (show (allB (agreeB M.pn b c M) M.pn && allB (fitB M.pn b c M) M.tn) = false by rw [allB_bad (i := i) (by unfold fitB; rw [HJN.out, HF.out, bpl2, br]; rfl) _ hlt, Bool.and_false])
                  clear hr bpl2
                  go_wp2_with fail
                  go_at_call 65; refine (spTimerOk_any _ _ _ (M.t i) _).mono ?_; rw [HF.out]; rintro x w2 ⟨rfl, hb⟩
                  have hb2 := hbT.trans (hb.mono hbT.size)
                  clear m0 m1 m2
                  obtain ⟨t0, t1, t2, t3, t4, t5, t6, t7⟩ := tm_cells (t := M.t i) (b_block hb hTv (lt_of_block hTv))
                  obtain ⟨m0, m1, m2, _, _, _⟩ := three (b_block hb2 HMB.out lM)
                  obtain ⟨xa, xc, c0, c1, c2, c3, hrow⟩ := HPC.out.below hpb hb2
                  rw [HJ.out] at t4
                  have HROW := Lib.hid hrow
                  clear hrow
                  go_wp2_with fail
                  go_at_call 66; refine (spFindSlot_any _ _ hns HROW.out).mono ?_; rintro x w3 ⟨rfl, rfl⟩
                  go_wp2
                  go_ret
                  exact ⟨ret_bool' (by rw [HBAD.out]), kr.trans (hb2.mono kr.size)⟩
                · have br : decide (findFrom (M.p j).f (M.p j).n (i : Int) 0 < 0) = false := by simpa using hr
                  have HOKN := Lib.hid (show allB (fitB M.pn b c M) (i + 1) = true by rw [allB, HOK2.out]; unfold fitB; rw [HJN.out, HF.out, bpl2, br]; rfl)
                  clear hr bpl2
                  go_wp2_with fail
                  go_at_call 65; refine (spTimerOk_any _ _ _ (M.t i) _).mono ?_; rw [HF.out]; rintro x w2 ⟨rfl, hb⟩
                  have hb2 := hbT.trans (hb.mono hbT.size)
                  clear m0 m1 m2
                  obtain ⟨t0, t1, t2, t3, t4, t5, t6, t7⟩ := tm_cells (t := M.t i) (b_block hb hTv (lt_of_block hTv))
                  obtain ⟨m0, m1, m2, _, _, _⟩ := three (b_block hb2 HMB.out lM)
                  obtain ⟨xa, xc, c0, c1, c2, c3, hrow⟩ := HPC.out.below hpb hb2
                  rw [HJ.out] at t4
                  have HROW := Lib.hid hrow
                  clear hrow
                  go_wp2_with fail
                  go_at_call 66; refine (spFindSlot_any _ _ hns HROW.out).mono ?_; rintro x w3 ⟨rfl, rfl⟩
                  go_wp2
                  exact ⟨⟨i + 1, by omega, by go_num, HOKN.out, hb2⟩, by simp only [intOf]; omega⟩
          · have hin : i = M.tn := by omega
            have HOK2 := Lib.hid hok2
            have HIN := Lib.hid hin
            have hlt2 : ¬ (i : Int) < (M.tn : Int) := by omega
            clear hok2 hin
            go_wp2
            go_ret
            exact ⟨ret_bool' (by rw [HALL.out, ← HIN.out, HOK2.out]; rfl), kr.trans (hbq.mono kr.size)⟩
  · have bpa : ((M.pn : Int) == a) = false := beq_eq_false_iff_ne.2 hpa
    rw [show memOkB a b c M = false by unfold memOkB; rw [hp, hc, bct, bpa]; simp]
    clear hp hc
    go_enter Try.func21, Try.ntmps21
    go_wp2_with fail
    go_at_call 52; refine (spPlanOk_any _ _ _ _).mono ?_; rw [HP.out]; rintro x w1 ⟨rfl, hb⟩
    have hM1 := b_block hb hMv (lt_of_block hMv)
    obtain ⟨m0, m1, m2, _, _, _⟩ := three hM1
    have hP1 := b_block hb hPv (lt_of_block hPv)
    obtain ⟨p0, p1, p2, _, _, _⟩ := three hP1
    go_wp2_with fail
    go_at_call 56; refine (l1In_any _ _ _ _).mono ?_; rw [HC.out]; rintro x w1 ⟨rfl, rfl⟩
    go_wp2
    go_ret
    exact ⟨rfl, k1.trans (hb.mono k1.size)⟩

end Go.Proofs.Ytnmaljieaflnmaa

/-
  Memories (spec, chapter 5): when is the first of all processors to wake?
-/
namespace Go.Proofs.Ytnmaljieaflnmaa
open Go.RowKit Go.Joins
set_option linter.unusedVariables false

def stepW (best n : Int) : Int := if 0 ≤ n ∧ (best < 0 ∨ n < best) then n else best
def bestW (P : Pcs) : Nat → Int
  | 0 => -1
  | k + 1 => stepW (bestW P k) (wakeI (P k).f (P k).n (P k).e)
def wakeAllI (a b c : Int) (M : Me) : Int := if memOkB a b c M = true then bestW M.p M.pn else -1

set_option maxRecDepth 100000 in
set_option maxHeartbeats 4000000 in
theorem spWakeAll_any (a b c : Int) {tv pv : Value} {M : Me} {w : World} (hs : sizeM M ≤ 1048576) (h : MemAt w tv pv M) :
    Calls Try.prog 37 #[.agg #[.int .i64 a, .int .i64 b, .int .i64 c], meV M.c tv pv] w fun e w' => e = .returned (.int .i64 (wakeAllI a b c M)) ∧ Below w.heap.size w w' := by
  obtain ⟨htn, hpn, hsl, hns⟩ := sizeM_le hs
  obtain ⟨ta, tc, qa, qc, rfl, rfl⟩ := h.form
  have k0 := (Below.refl w.heap.size w).alloc (Nat.le_refl _) (.cells #[.int .i64 a, .int .i64 b, .int .i64 c] 25)
  have e0 : (w.alloc (.cells #[.int .i64 a, .int .i64 b, .int .i64 c] 25)).heap.size = w.heap.size + 1 := by simp
  have k1 := k0.alloc (by omega) (memO M.c (.slice ta M.tn tc) (.slice qa M.pn qc) 54)
  have hMv := heap_alloc_new (w.alloc (.cells #[.int .i64 a, .int .i64 b, .int .i64 c] 25)) (memO M.c (.slice ta M.tn tc) (.slice qa M.pn qc) 54)
  rw [e0] at hMv
  have HM := Lib.hid h
  have HCM := Lib.hid (spMemOk_any a b c hs (h.below k1))
  have HNS := Lib.hid hns
  clear h k0 e0 hsl hns hs
  cases hv : memOkB a b c M
  · rw [show wakeAllI a b c M = -1 by unfold wakeAllI; rw [hv]; rfl]
    have HV := Lib.hid hv
    clear hv
    go_enter Try.func37, Try.ntmps37
    go_wp2_with fail
    go_at_call 21; refine HCM.out.mono ?_; rw [HV.out]; rintro x w1 ⟨rfl, hb⟩
    go_wp2
    go_ret
    exact ⟨rfl, k1.trans (hb.mono k1.size)⟩
  rw [show wakeAllI a b c M = bestW M.p M.pn by unfold wakeAllI; rw [hv]; rfl]
  have HV := Lib.hid hv
  clear hv
  go_enter Try.func37, Try.ntmps37
  go_wp2_with fail
  go_at_call 21; refine HCM.out.mono ?_; rw [HV.out]; rintro x W1 ⟨rfl, hb⟩
  have kr := k1.trans (hb.mono k1.size)
  have hM1 := b_block hb hMv (lt_of_block hMv)
  have lM := lt_of_block hM1
  have HMB := Lib.hid hM1
  have HP1 := Lib.hid (HM.out.below kr).2
  clear hb hMv k1 HCM hM1
  go_wp2_with fail
  go_loopw [5, 6] (fun q i' wr => ∃ (k : Nat) (y : Int), k ≤ M.pn ∧ i' = .int .i64 k ∧ q = .int .i64 y ∧ y = bestW M.p k ∧ Below W1.heap.size W1 wr) (fun _ i' _ => M.pn - (intOf i').toNat)
  case atStart => exact ⟨0, _, Nat.zero_le _, rfl, rfl, rfl, Below.refl _ _⟩
  case round =>
    obtain ⟨k, y, hk, rfl, rfl, hy, hbr⟩ := hrel
    obtain ⟨m0, m1, m2, _, _, _⟩ := three (b_block hbr HMB.out lM)
    have HY := Lib.hid hy
    clear hy
    by_cases hlt : k < M.pn
    · have i1 : (k : Int) < (M.pn : Int) := by omega
      have i0 : (0 : Int) ≤ (k : Int) := by omega
      have hnk := HNS.out k hlt
      rcases HP1.out with ⟨h0, _⟩ | ⟨pb, po, pcap, ev, hpb, hpc⟩
      · omega
      injection ev with ev1 ev2 ev3
      subst ev1 ev3
      obtain ⟨xa, xc, c0, c1, c2, c3, hrow⟩ := (hpc k hlt).below hpb hbr
      obtain ⟨n, hn⟩ : ∃ n : Int, n = wakeI (M.p k).f (M.p k).n (M.p k).e := ⟨_, rfl⟩
      have CW := spWakeOf_any (M.p k).l (M.p k).e (M.p k).d hnk hrow
      rw [← hn] at CW
      have HCW := Lib.hid CW
      have HN := Lib.hid (show bestW M.p (k + 1) = stepW y n by rw [bestW, HY.out, hn])
      clear CW hrow hpc hn
      by_cases h0 : 0 ≤ n
      · have b0 : decide (0 ≤ n) = true := by simpa using h0
        by_cases hy0 : y < 0
        · have by0 : decide (y < 0) = true := by simpa using hy0
          have HST := Lib.hid (show n = bestW M.p (k + 1) by rw [HN.out]; unfold stepW; rw [if_pos ⟨h0, .inl hy0⟩])
          clear h0 hy0
          go_wp2_with fail
          go_at_call 16; refine HCW.out.mono ?_; rintro x w2 ⟨rfl, hb⟩
          have hbn := hbr.trans (hb.mono hbr.size)
          clear hb
          go_wp2
          exact ⟨⟨k + 1, n, by omega, by go_num, rfl, HST.out, hbn⟩, by simp only [intOf]; omega⟩
        · have by0 : decide (y < 0) = false := by simpa using hy0
          by_cases hny : n < y
          · have bny : decide (n < y) = true := by simpa using hny
            have HST := Lib.hid (show n = bestW M.p (k + 1) by rw [HN.out]; unfold stepW; rw [if_pos ⟨h0, .inr hny⟩])
            clear h0 hy0 hny
            go_wp2_with fail
            go_at_call 16; refine HCW.out.mono ?_; rintro x w2 ⟨rfl, hb⟩
            have hbn := hbr.trans (hb.mono hbr.size)
            clear hb
            go_wp2
            exact ⟨⟨k + 1, n, by omega, by go_num, rfl, HST.out, hbn⟩, by simp only [intOf]; omega⟩
          · have bny : decide (n < y) = false := by simpa using hny
            have HST := Lib.hid (show y = bestW M.p (k + 1) by rw [HN.out]; unfold stepW; rw [if_neg (by omega)])
            clear h0 hy0 hny
            go_wp2_with fail
            go_at_call 16; refine HCW.out.mono ?_; rintro x w2 ⟨rfl, hb⟩
            have hbn := hbr.trans (hb.mono hbr.size)
            clear hb
            go_wp2
            exact ⟨⟨k + 1, y, by omega, by go_num, rfl, HST.out, hbn⟩, by simp only [intOf]; omega⟩
      · have b0 : decide (0 ≤ n) = false := by simpa using h0
        have HST := Lib.hid (show y = bestW M.p (k + 1) by rw [HN.out]; unfold stepW; rw [if_neg (by omega)])
        clear h0
        go_wp2_with fail
        go_at_call 16; refine HCW.out.mono ?_; rintro x w2 ⟨rfl, hb⟩
        have hbn := hbr.trans (hb.mono hbr.size)
        clear hb
        go_wp2
        exact ⟨⟨k + 1, y, by omega, by go_num, rfl, HST.out, hbn⟩, by simp only [intOf]; omega⟩
    · have hkn : k = M.pn := by omega
      subst hkn
      have hge : ¬ ((M.pn : Nat) : Int) < ((M.pn : Nat) : Int) := by omega
      clear hlt hk
      go_wp2
      go_ret
      exact ⟨ret_i64 HY.out, kr.trans (hbr.mono kr.size)⟩

end Go.Proofs.Ytnmaljieaflnmaa

/-
  The exact laws on a memory whose answer is a truth value or a number, told what the program answers.
-/
namespace Go.Proofs.Ytnmaljieaflnmaa
open Go.RowKit Go.Joins
set_option linter.unusedVariables false

/-- what the program's function of a plan and a memory is to answer -/
def AsksMB (fn : FuncId) (g : Int → Int → Int → Me → Bool) : Prop := ∀ (a b c : Int) (tv pv : Value) (M : Me) (w : World), sizeM M ≤ 1048576 → MemAt w tv pv M → Calls Try.prog fn #[.agg #[.int .i64 a, .int .i64 b, .int .i64 c], meV M.c tv pv] w fun x w' => x = .returned (.bool (g a b c M)) ∧ Below w.heap.size w w'
def AsksMI (fn : FuncId) (g : Int → Int → Int → Me → Int) : Prop := ∀ (a b c : Int) (tv pv : Value) (M : Me) (w : World), sizeM M ≤ 1048576 → MemAt w tv pv M → Calls Try.prog fn #[.agg #[.int .i64 a, .int .i64 b, .int .i64 c], meV M.c tv pv] w fun x w' => x = .returned (.int .i64 (g a b c M)) ∧ Below w.heap.size w w'

set_option maxRecDepth 100000 in
set_option maxHeartbeats 1000000 in
theorem exactMemOk_big (a b c : Int) {tv pv : Value} {M : Me} {w : World} (htn : M.tn ≤ maxLen) (hpn : M.pn ≤ maxLen) (hns : ∀ i, i < M.pn → (M.p i).n ≤ maxLen) (hs : ¬ sizeM M ≤ 1048576) (h : MemAt w tv pv M) :
    Calls Try.prog 5 #[.agg #[.int .i64 a, .int .i64 b, .int .i64 c], meV M.c tv pv] w fun x w' => x = .returned (.bool true) ∧ Below w.heap.size w w' := by
  obtain ⟨va, vc, qa, qc, rfl, rfl⟩ := h.form
  have k0 := ((Below.refl w.heap.size w).alloc (Nat.le_refl _) (.cells #[.int .i64 a, .int .i64 b, .int .i64 c] 43)).alloc (by simp) (memO M.c (.slice va M.tn vc) (.slice qa M.pn qc) 47)
  have HSZ := Lib.hid (szMem_big (h.below k0) htn hpn hns 1048576 (by decide) (by decide) (by omega))
  clear h htn hpn hns
  go_enter Try.func5, Try.ntmps5
  go_wp2_with fail
  go_at_call 20; refine HSZ.out.mono ?_; rintro x w1 ⟨rfl, hb⟩
  go_wp2
  go_ret
  exact ⟨rfl, k0.trans (hb.mono k0.size)⟩

set_option maxRecDepth 100000 in
set_option maxHeartbeats 4000000 in
theorem exactMemOk_small (hI : AsksMB 24 memOkB) (a b c : Int) {tv pv : Value} {M : Me} {w : World} (hs : sizeM M ≤ 1048576) (h : MemAt w tv pv M) :
    Calls Try.prog 5 #[.agg #[.int .i64 a, .int .i64 b, .int .i64 c], meV M.c tv pv] w fun x w' => x = .returned (.bool true) ∧ Below w.heap.size w w' := by
  obtain ⟨va, vc, qa, qc, rfl, rfl⟩ := h.form
  have k0 := ((Below.refl w.heap.size w).alloc (Nat.le_refl _) (.cells #[.int .i64 a, .int .i64 b, .int .i64 c] 43)).alloc (by simp) (memO M.c (.slice va M.tn vc) (.slice qa M.pn qc) 47)
  have RV := Lib.hid (h.below k0)
  have hX := heap_alloc_new (w.alloc (.cells #[.int .i64 a, .int .i64 b, .int .i64 c] 43)) (memO M.c (.slice va M.tn vc) (.slice qa M.pn qc) 47)
  rw [show (w.alloc (.cells #[.int .i64 a, .int .i64 b, .int .i64 c] 43)).heap.size = w.heap.size + 1 by simp] at hX
  have hPx := alloc_block (memO M.c (.slice va M.tn vc) (.slice qa M.pn qc) 47) (heap_alloc_new w (.cells #[.int .i64 a, .int .i64 b, .int .i64 c] 43))
  have HP := Lib.hid hPx
  have lP := lt_of_block hPx
  clear hPx
  have lX := lt_of_block hX
  have HX := Lib.hid hX
  have HSZ := Lib.hid (szMem_ok (h.below k0) 1048576 (by decide) (by omega))
  obtain ⟨z, hze⟩ : ∃ z : Int, z = 1048576 - ((sizeM M : Nat) : Int) := ⟨_, rfl⟩
  have hz : decide (z < 0) = false := by simp; omega
  have HZ := Lib.hid hze
  clear h hX hze
  go_enter Try.func5, Try.ntmps5
  go_wp2_with fail
  go_at_call 20; refine HSZ.out.mono ?_; rw [← HZ.out]; rintro x w1 ⟨rfl, kk⟩
  obtain ⟨x0, x1, x2, _, _, _⟩ := three (b_block kk HX.out lX)
  obtain ⟨y0, y1, y2, _, _, _⟩ := three (b_block kk HP.out lP)
  go_wp2_with fail
  go_region_held3 (fun w' => w'.cell? ⟨w.heap.size, 0, none⟩ = some (.int .i64 a) ∧ w'.cell? ⟨w.heap.size, 1, none⟩ = some (.int .i64 b) ∧ w'.cell? ⟨w.heap.size, 2, none⟩ = some (.int .i64 c) ∧ w'.cell? ⟨w.heap.size + 1, 0, none⟩ = some (.int .i64 M.c) ∧ w'.cell? ⟨w.heap.size + 1, 1, none⟩ = some (.slice va M.tn vc) ∧ w'.cell? ⟨w.heap.size + 1, 2, none⟩ = some (.slice qa M.pn qc))
    (first | exact ⟨y0, y1, y2, x0, x1, x2⟩ | exact ⟨(kk.cell (p := ⟨w.heap.size, 0, none⟩) lP).trans (cell_of_block HP.out 0), (kk.cell (p := ⟨w.heap.size, 1, none⟩) lP).trans (cell_of_block HP.out 1), (kk.cell (p := ⟨w.heap.size, 2, none⟩) lP).trans (cell_of_block HP.out 2), (kk.cell (p := ⟨w.heap.size + 1, 0, none⟩) lX).trans (cell_of_block HX.out 0), (kk.cell (p := ⟨w.heap.size + 1, 1, none⟩) lX).trans (cell_of_block HX.out 1), (kk.cell (p := ⟨w.heap.size + 1, 2, none⟩) lX).trans (cell_of_block HX.out 2)⟩ | go_keep)
    (first
      | (go_at_call 22; refine (toPlan_any _ _ _ _).mono ?_; rintro x wp ⟨rfl, hb⟩; have kp := kk.drew.trans (hb.mono kk.drew.size); replace kk := kp; clear hb)
      | (go_at_call 23; refine (toMem_any hs (RV.out.below kk)).mono ?_; rintro x w2 ⟨u1, u2, rfl, hU1, hb⟩; have kp2 := kk.trans (hb.mono kk.size); replace kk := kp2; clear hb)
      | (go_at_call 21; refine (spMemOk_any _ _ _ hs hU1.at).mono ?_; rintro x w3 ⟨rfl, hb⟩; have kp3 := kk.trans (hb.mono kk.size); replace kk := kp3; clear hb hU1))
  all_goals
    clear x0 x1 x2 y0 y1 y2
    obtain ⟨x0, x1, x2, _, _, _⟩ := three (b_block kk HX.out lX)
    obtain ⟨y0, y1, y2, _, _, _⟩ := three (b_block kk HP.out lP)
    go_wp2_with fail
    go_at_call 23; refine (toMem_any hs (RV.out.below kk)).mono ?_; rintro x w4 ⟨u2, u3, rfl, hU2', hb⟩
    replace kk := kk.trans (hb.mono kk.size); clear hb x0 x1 x2 y0 y1 y2
    have hs4 := kk.size
    obtain ⟨ua, uc, ya, yc, hu, hy⟩ := hU2'.at.form
    subst hu hy
    replace kk := kk.alloc kk.size (memO M.c (.slice ua M.tn uc) (.slice ya M.pn yc) 54)
    have HU2 := Lib.hid (hU2'.at.below ((Below.refl _ _).alloc (Nat.le_refl _) (memO M.c (.slice ua M.tn uc) (.slice ya M.pn yc) 54)))
    have HY := Lib.hid (heap_alloc_new w4 (memO M.c (.slice ua M.tn uc) (.slice ya M.pn yc) 54))
    have lY : w4.heap.size < (w4.alloc (memO M.c (.slice ua M.tn uc) (.slice ya M.pn yc) 54)).heap.size := by simp
    obtain ⟨z0, z1, z2, _, _, _⟩ := three HY.out
    have hne : w.heap.size + 1 ≠ w4.heap.size := by omega
    clear hU2'
    have ky := Below.refl (w4.alloc (memO M.c (.slice ua M.tn uc) (.slice ya M.pn yc) 54)).heap.size (w4.alloc (memO M.c (.slice ua M.tn uc) (.slice ya M.pn yc) 54))
    obtain ⟨x0, x1, x2, _, _, _⟩ := three (b_block kk HX.out lX)
    obtain ⟨y0, y1, y2, _, _, _⟩ := three (b_block kk HP.out lP)
    go_wp2_with fail
    go_region_held3 (fun w' => w'.cell? ⟨w.heap.size, 0, none⟩ = some (.int .i64 a) ∧ w'.cell? ⟨w.heap.size, 1, none⟩ = some (.int .i64 b) ∧ w'.cell? ⟨w.heap.size, 2, none⟩ = some (.int .i64 c) ∧ w'.cell? ⟨w4.heap.size, 0, none⟩ = some (.int .i64 M.c) ∧ w'.cell? ⟨w4.heap.size, 1, none⟩ = some (.slice ua M.tn uc) ∧ w'.cell? ⟨w4.heap.size, 2, none⟩ = some (.slice ya M.pn yc))
      (first | exact ⟨y0, y1, y2, z0, z1, z2⟩ | exact ⟨(kk.cell (p := ⟨w.heap.size, 0, none⟩) lP).trans (cell_of_block HP.out 0), (kk.cell (p := ⟨w.heap.size, 1, none⟩) lP).trans (cell_of_block HP.out 1), (kk.cell (p := ⟨w.heap.size, 2, none⟩) lP).trans (cell_of_block HP.out 2), (ky.cell (p := ⟨w4.heap.size, 0, none⟩) lY).trans (cell_of_block HY.out 0), (ky.cell (p := ⟨w4.heap.size, 1, none⟩) lY).trans (cell_of_block HY.out 1), (ky.cell (p := ⟨w4.heap.size, 2, none⟩) lY).trans (cell_of_block HY.out 2)⟩ | go_keep)
      (first
        | (go_at_call 22; refine (toPlan_any _ _ _ _).mono ?_; rintro x wp ⟨rfl, hb⟩; have kp := kk.drew.trans (hb.mono kk.drew.size); have kq := ky.drew.trans (hb.mono ky.drew.size); have hU3 := HU2.out.below kq; replace kk := kp; replace ky := kq; clear hb)
        | (go_at_call 24; refine (hI _ _ _ _ _ _ _ hs hU3).mono ?_; rintro x w5 ⟨rfl, hb⟩; have kp3 := kk.trans (hb.mono kk.size); have kq3 := ky.trans (hb.mono ky.size); replace kk := kp3; replace ky := kq3; clear hb))
    all_goals
      clear z0 z1 z2 x0 x1 x2 y0 y1 y2
      obtain ⟨x0, x1, x2, _, _, _⟩ := three (b_block kk HX.out lX)
      obtain ⟨y0, y1, y2, _, _, _⟩ := three (b_block kk HP.out lP)
      obtain ⟨z0, z1, z2, _, _, _⟩ := three (b_block ky HY.out lY)
      go_wp2_with fail
      go_region_held3 (fun w' => w'.cell? ⟨w.heap.size + 1, 0, none⟩ = some (.int .i64 M.c) ∧ w'.cell? ⟨w.heap.size + 1, 1, none⟩ = some (.slice va M.tn vc) ∧ w'.cell? ⟨w.heap.size + 1, 2, none⟩ = some (.slice qa M.pn qc) ∧ w'.cell? ⟨w4.heap.size, 0, none⟩ = some (.int .i64 M.c) ∧ w'.cell? ⟨w4.heap.size, 1, none⟩ = some (.slice ua M.tn uc) ∧ w'.cell? ⟨w4.heap.size, 2, none⟩ = some (.slice ya M.pn yc))
        (first | exact ⟨x0, x1, x2, z0, z1, z2⟩ | exact ⟨(kk.cell (p := ⟨w.heap.size + 1, 0, none⟩) lX).trans (cell_of_block HX.out 0), (kk.cell (p := ⟨w.heap.size + 1, 1, none⟩) lX).trans (cell_of_block HX.out 1), (kk.cell (p := ⟨w.heap.size + 1, 2, none⟩) lX).trans (cell_of_block HX.out 2), (ky.cell (p := ⟨w4.heap.size, 0, none⟩) lY).trans (cell_of_block HY.out 0), (ky.cell (p := ⟨w4.heap.size, 1, none⟩) lY).trans (cell_of_block HY.out 1), (ky.cell (p := ⟨w4.heap.size, 2, none⟩) lY).trans (cell_of_block HY.out 2)⟩ | go_keep)
        (first
          | (go_at_call 23; refine (toMem_any hs (RV.out.below kk.drew)).mono ?_; rintro x w6 ⟨u4, u5, rfl, hU4, hb⟩; have kp := kk.drew.trans (hb.mono kk.drew.size); have kq := ky.drew.trans (hb.mono ky.drew.size); replace kk := kp; replace ky := kq; clear hb)
          | (go_at_call 25; refine (eqMem_same hs (HU2.out.below ky) hU4.at).mono ?_; rintro x w7 ⟨rfl, hb⟩; have kp3 := kk.trans (hb.mono kk.size); have kq3 := ky.trans (hb.mono ky.size); replace kk := kp3; replace ky := kq3; clear hb))
      all_goals
        clear z0 z1 z2 x0 x1 x2 y0 y1 y2
        go_wp2
        go_ret
        exact ⟨rfl, k0.trans (kk.mono k0.size)⟩

set_option maxRecDepth 100000 in
set_option maxHeartbeats 1000000 in
theorem exactWakeAll_big (a b c : Int) {tv pv : Value} {M : Me} {w : World} (htn : M.tn ≤ maxLen) (hpn : M.pn ≤ maxLen) (hns : ∀ i, i < M.pn → (M.p i).n ≤ maxLen) (hs : ¬ sizeM M ≤ 1048576) (h : MemAt w tv pv M) :
    Calls Try.prog 9 #[.agg #[.int .i64 a, .int .i64 b, .int .i64 c], meV M.c tv pv] w fun x w' => x = .returned (.bool true) ∧ Below w.heap.size w w' := by
  obtain ⟨va, vc, qa, qc, rfl, rfl⟩ := h.form
  have k0 := ((Below.refl w.heap.size w).alloc (Nat.le_refl _) (.cells #[.int .i64 a, .int .i64 b, .int .i64 c] 43)).alloc (by simp) (memO M.c (.slice va M.tn vc) (.slice qa M.pn qc) 47)
  have HSZ := Lib.hid (szMem_big (h.below k0) htn hpn hns 1048576 (by decide) (by decide) (by omega))
  clear h htn hpn hns
  go_enter Try.func9, Try.ntmps9
  go_wp2_with fail
  go_at_call 20; refine HSZ.out.mono ?_; rintro x w1 ⟨rfl, hb⟩
  go_wp2
  go_ret
  exact ⟨rfl, k0.trans (hb.mono k0.size)⟩

set_option maxRecDepth 100000 in
set_option maxHeartbeats 4000000 in
theorem exactWakeAll_small (hI : AsksMI 38 wakeAllI) (a b c : Int) {tv pv : Value} {M : Me} {w : World} (hs : sizeM M ≤ 1048576) (h : MemAt w tv pv M) :
    Calls Try.prog 9 #[.agg #[.int .i64 a, .int .i64 b, .int .i64 c], meV M.c tv pv] w fun x w' => x = .returned (.bool true) ∧ Below w.heap.size w w' := by
  obtain ⟨va, vc, qa, qc, rfl, rfl⟩ := h.form
  have k0 := ((Below.refl w.heap.size w).alloc (Nat.le_refl _) (.cells #[.int .i64 a, .int .i64 b, .int .i64 c] 43)).alloc (by simp) (memO M.c (.slice va M.tn vc) (.slice qa M.pn qc) 47)
  have RV := Lib.hid (h.below k0)
  have hX := heap_alloc_new (w.alloc (.cells #[.int .i64 a, .int .i64 b, .int .i64 c] 43)) (memO M.c (.slice va M.tn vc) (.slice qa M.pn qc) 47)
  rw [show (w.alloc (.cells #[.int .i64 a, .int .i64 b, .int .i64 c] 43)).heap.size = w.heap.size + 1 by simp] at hX
  have hPx := alloc_block (memO M.c (.slice va M.tn vc) (.slice qa M.pn qc) 47) (heap_alloc_new w (.cells #[.int .i64 a, .int .i64 b, .int .i64 c] 43))
  have HP := Lib.hid hPx
  have lP := lt_of_block hPx
  clear hPx
  have lX := lt_of_block hX
  have HX := Lib.hid hX
  have HSZ := Lib.hid (szMem_ok (h.below k0) 1048576 (by decide) (by omega))
  obtain ⟨z, hze⟩ : ∃ z : Int, z = 1048576 - ((sizeM M : Nat) : Int) := ⟨_, rfl⟩
  have hz : decide (z < 0) = false := by simp; omega
  have HZ := Lib.hid hze
  clear h hX hze
  go_enter Try.func9, Try.ntmps9
  go_wp2_with fail
  go_at_call 20; refine HSZ.out.mono ?_; rw [← HZ.out]; rintro x w1 ⟨rfl, kk⟩
  obtain ⟨x0, x1, x2, _, _, _⟩ := three (b_block kk HX.out lX)
  obtain ⟨y0, y1, y2, _, _, _⟩ := three (b_block kk HP.out lP)
  go_wp2_with fail
  go_region_held3 (fun w' => w'.cell? ⟨w.heap.size, 0, none⟩ = some (.int .i64 a) ∧ w'.cell? ⟨w.heap.size, 1, none⟩ = some (.int .i64 b) ∧ w'.cell? ⟨w.heap.size, 2, none⟩ = some (.int .i64 c) ∧ w'.cell? ⟨w.heap.size + 1, 0, none⟩ = some (.int .i64 M.c) ∧ w'.cell? ⟨w.heap.size + 1, 1, none⟩ = some (.slice va M.tn vc) ∧ w'.cell? ⟨w.heap.size + 1, 2, none⟩ = some (.slice qa M.pn qc))
    (first | exact ⟨y0, y1, y2, x0, x1, x2⟩ | exact ⟨(kk.cell (p := ⟨w.heap.size, 0, none⟩) lP).trans (cell_of_block HP.out 0), (kk.cell (p := ⟨w.heap.size, 1, none⟩) lP).trans (cell_of_block HP.out 1), (kk.cell (p := ⟨w.heap.size, 2, none⟩) lP).trans (cell_of_block HP.out 2), (kk.cell (p := ⟨w.heap.size + 1, 0, none⟩) lX).trans (cell_of_block HX.out 0), (kk.cell (p := ⟨w.heap.size + 1, 1, none⟩) lX).trans (cell_of_block HX.out 1), (kk.cell (p := ⟨w.heap.size + 1, 2, none⟩) lX).trans (cell_of_block HX.out 2)⟩ | go_keep)
    (first
      | (go_at_call 22; refine (toPlan_any _ _ _ _).mono ?_; rintro x wp ⟨rfl, hb⟩; have kp := kk.drew.trans (hb.mono kk.drew.size); replace kk := kp; clear hb)
      | (go_at_call 23; refine (toMem_any hs (RV.out.below kk)).mono ?_; rintro x w2 ⟨u1, u2, rfl, hU1, hb⟩; have kp2 := kk.trans (hb.mono kk.size); replace kk := kp2; clear hb)
      | (go_at_call 37; refine (spWakeAll_any _ _ _ hs hU1.at).mono ?_; rintro x w3 ⟨rfl, hb⟩; have kp3 := kk.trans (hb.mono kk.size); replace kk := kp3; clear hb hU1))
  all_goals
    clear x0 x1 x2 y0 y1 y2
    obtain ⟨x0, x1, x2, _, _, _⟩ := three (b_block kk HX.out lX)
    obtain ⟨y0, y1, y2, _, _, _⟩ := three (b_block kk HP.out lP)
    go_wp2_with fail
    go_at_call 23; refine (toMem_any hs (RV.out.below kk)).mono ?_; rintro x w4 ⟨u2, u3, rfl, hU2', hb⟩
    replace kk := kk.trans (hb.mono kk.size); clear hb x0 x1 x2 y0 y1 y2
    have hs4 := kk.size
    obtain ⟨ua, uc, ya, yc, hu, hy⟩ := hU2'.at.form
    subst hu hy
    replace kk := kk.alloc kk.size (memO M.c (.slice ua M.tn uc) (.slice ya M.pn yc) 54)
    have HU2 := Lib.hid (hU2'.at.below ((Below.refl _ _).alloc (Nat.le_refl _) (memO M.c (.slice ua M.tn uc) (.slice ya M.pn yc) 54)))
    have HY := Lib.hid (heap_alloc_new w4 (memO M.c (.slice ua M.tn uc) (.slice ya M.pn yc) 54))
    have lY : w4.heap.size < (w4.alloc (memO M.c (.slice ua M.tn uc) (.slice ya M.pn yc) 54)).heap.size := by simp
    obtain ⟨z0, z1, z2, _, _, _⟩ := three HY.out
    have hne : w.heap.size + 1 ≠ w4.heap.size := by omega
    clear hU2'
    have ky := Below.refl (w4.alloc (memO M.c (.slice ua M.tn uc) (.slice ya M.pn yc) 54)).heap.size (w4.alloc (memO M.c (.slice ua M.tn uc) (.slice ya M.pn yc) 54))
    obtain ⟨x0, x1, x2, _, _, _⟩ := three (b_block kk HX.out lX)
    obtain ⟨y0, y1, y2, _, _, _⟩ := three (b_block kk HP.out lP)
    go_wp2_with fail
    go_region_held3 (fun w' => w'.cell? ⟨w.heap.size, 0, none⟩ = some (.int .i64 a) ∧ w'.cell? ⟨w.heap.size, 1, none⟩ = some (.int .i64 b) ∧ w'.cell? ⟨w.heap.size, 2, none⟩ = some (.int .i64 c) ∧ w'.cell? ⟨w4.heap.size, 0, none⟩ = some (.int .i64 M.c) ∧ w'.cell? ⟨w4.heap.size, 1, none⟩ = some (.slice ua M.tn uc) ∧ w'.cell? ⟨w4.heap.size, 2, none⟩ = some (.slice ya M.pn yc))
      (first | exact ⟨y0, y1, y2, z0, z1, z2⟩ | exact ⟨(kk.cell (p := ⟨w.heap.size, 0, none⟩) lP).trans (cell_of_block HP.out 0), (kk.cell (p := ⟨w.heap.size, 1, none⟩) lP).trans (cell_of_block HP.out 1), (kk.cell (p := ⟨w.heap.size, 2, none⟩) lP).trans (cell_of_block HP.out 2), (ky.cell (p := ⟨w4.heap.size, 0, none⟩) lY).trans (cell_of_block HY.out 0), (ky.cell (p := ⟨w4.heap.size, 1, none⟩) lY).trans (cell_of_block HY.out 1), (ky.cell (p := ⟨w4.heap.size, 2, none⟩) lY).trans (cell_of_block HY.out 2)⟩ | go_keep)
      (first
        | (go_at_call 22; refine (toPlan_any _ _ _ _).mono ?_; rintro x wp ⟨rfl, hb⟩; have kp := kk.drew.trans (hb.mono kk.drew.size); have kq := ky.drew.trans (hb.mono ky.drew.size); have hU3 := HU2.out.below kq; replace kk := kp; replace ky := kq; clear hb)
        | (go_at_call 38; refine (hI _ _ _ _ _ _ _ hs hU3).mono ?_; rintro x w5 ⟨rfl, hb⟩; have kp3 := kk.trans (hb.mono kk.size); have kq3 := ky.trans (hb.mono ky.size); replace kk := kp3; replace ky := kq3; clear hb))
    all_goals
      clear z0 z1 z2 x0 x1 x2 y0 y1 y2
      obtain ⟨x0, x1, x2, _, _, _⟩ := three (b_block kk HX.out lX)
      obtain ⟨y0, y1, y2, _, _, _⟩ := three (b_block kk HP.out lP)
      obtain ⟨z0, z1, z2, _, _, _⟩ := three (b_block ky HY.out lY)
      go_wp2_with fail
      go_region_held3 (fun w' => w'.cell? ⟨w.heap.size + 1, 0, none⟩ = some (.int .i64 M.c) ∧ w'.cell? ⟨w.heap.size + 1, 1, none⟩ = some (.slice va M.tn vc) ∧ w'.cell? ⟨w.heap.size + 1, 2, none⟩ = some (.slice qa M.pn qc) ∧ w'.cell? ⟨w4.heap.size, 0, none⟩ = some (.int .i64 M.c) ∧ w'.cell? ⟨w4.heap.size, 1, none⟩ = some (.slice ua M.tn uc) ∧ w'.cell? ⟨w4.heap.size, 2, none⟩ = some (.slice ya M.pn yc))
        (first | exact ⟨x0, x1, x2, z0, z1, z2⟩ | exact ⟨(kk.cell (p := ⟨w.heap.size + 1, 0, none⟩) lX).trans (cell_of_block HX.out 0), (kk.cell (p := ⟨w.heap.size + 1, 1, none⟩) lX).trans (cell_of_block HX.out 1), (kk.cell (p := ⟨w.heap.size + 1, 2, none⟩) lX).trans (cell_of_block HX.out 2), (ky.cell (p := ⟨w4.heap.size, 0, none⟩) lY).trans (cell_of_block HY.out 0), (ky.cell (p := ⟨w4.heap.size, 1, none⟩) lY).trans (cell_of_block HY.out 1), (ky.cell (p := ⟨w4.heap.size, 2, none⟩) lY).trans (cell_of_block HY.out 2)⟩ | go_keep)
        (first
          | (go_at_call 23; refine (toMem_any hs (RV.out.below kk.drew)).mono ?_; rintro x w6 ⟨u4, u5, rfl, hU4, hb⟩; have kp := kk.drew.trans (hb.mono kk.drew.size); have kq := ky.drew.trans (hb.mono ky.drew.size); replace kk := kp; replace ky := kq; clear hb)
          | (go_at_call 25; refine (eqMem_same hs (HU2.out.below ky) hU4.at).mono ?_; rintro x w7 ⟨rfl, hb⟩; have kp3 := kk.trans (hb.mono kk.size); have kq3 := ky.trans (hb.mono ky.size); replace kk := kp3; replace ky := kq3; clear hb))
      all_goals
        clear z0 z1 z2 x0 x1 x2 y0 y1 y2
        go_wp2
        go_ret
        exact ⟨rfl, k0.trans (kk.mono k0.size)⟩

end Go.Proofs.Ytnmaljieaflnmaa
