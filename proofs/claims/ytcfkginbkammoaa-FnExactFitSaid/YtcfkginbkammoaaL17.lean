/-
  A memory as the program works with it (chapter 5): seen in a Mem.
-/
import Derived.Test.YtcfkginbkammoaaL12
import Derived.Deep.RegionLaw
import Derived.Test.YtcfkginbkammoaaL16
import Derived.Test.YtcfkginbkammoaaL06
import Derived.Test.YtcfkginbkammoaaL10
import Derived.Test.YtcfkginbkammoaaL11
namespace Go.Proofs.Ytcfkginbkammoaa
open Go.RowKit Go.Joins
set_option linter.unusedVariables false

/-- a memory that is seen in a Mem, which stood in the world W: its own block, its own list of processors; the timers and the slots are another one's -/
def SeenIn (w W : World) (mb : Nat) (a b c : Int) (M : Me) : Prop :=
  ∃ tv g V, W.heap.size ≤ mb ∧ w.heap[mb]? = some (memB a b c M.c tv (.slice (some ⟨g, 0, none⟩) M.pn M.pn)) ∧ RowTAt W tv M.tn M.t ∧ ListXAt w W.heap.size g M.pn M.pn M.p V ∧ ∀ i, i < M.pn → RowAt W (V i) (M.p i).n (M.p i).f
theorem SeenIn.seen {w W : World} {mb : Nat} {a b c : Int} {M : Me} (h : SeenIn w W mb a b c M) (hb : Below W.heap.size W w) : SeenAt w mb a b c M := by
  obtain ⟨tv, g, V, _, h1, h2, h3, h4⟩ := h
  exact ⟨tv, _, h1, h2.below hb, h3.row fun i hi => (h4 i hi).below hb⟩
theorem SeenIn.below {w w' W : World} {mb : Nat} {a b c : Int} {M : Me} (h : SeenIn w W mb a b c M) (hb : Below w.heap.size w w') : SeenIn w' W mb a b c M := by
  obtain ⟨tv, g, V, h0, h1, h2, h3, h4⟩ := h
  exact ⟨tv, g, V, h0, b_block hb h1 (lt_of_block h1), h2, h3.below hb, h4⟩

set_option maxRecDepth 100000 in
set_option maxHeartbeats 4000000 in
theorem seenIn_any (a b c : Int) {tv pv : Value} {M : Me} {w : World} (hs : sizeM M ≤ 1048576) (h : MemAt w tv pv M) :
    Calls Try.prog 20 #[.agg #[.int .i64 a, .int .i64 b, .int .i64 c], meV M.c tv pv] w fun x w' => ∃ mb, x = .returned (ptrV mb) ∧ SeenIn w' w mb a b c M ∧ Below w.heap.size w w' := by
  obtain ⟨htn, hpn, hsl, hns⟩ := sizeM_le hs
  obtain ⟨ta, tc, qa, qc, rfl, rfl⟩ := h.form
  have hmk := run_make_px M.pn hpn
  have k0 := (Below.refl w.heap.size w).alloc (Nat.le_refl _) (.cells #[.int .i64 a, .int .i64 b, .int .i64 c] 34)
  have e0 : (w.alloc (.cells #[.int .i64 a, .int .i64 b, .int .i64 c] 34)).heap.size = w.heap.size + 1 := by simp
  have k1 := k0.alloc k0.size (memO M.c (.slice ta M.tn tc) (.slice qa M.pn qc) 39)
  have e1 : ((w.alloc (.cells #[.int .i64 a, .int .i64 b, .int .i64 c] 34)).alloc (memO M.c (.slice ta M.tn tc) (.slice qa M.pn qc) 39)).heap.size = w.heap.size + 1 + 1 := by simp
  have hP := alloc_block (memO M.c (.slice ta M.tn tc) (.slice qa M.pn qc) 39) (heap_alloc_new w (.cells #[.int .i64 a, .int .i64 b, .int .i64 c] 34))
  have hA := heap_alloc_new (w.alloc (.cells #[.int .i64 a, .int .i64 b, .int .i64 c] 34)) (memO M.c (.slice ta M.tn tc) (.slice qa M.pn qc) 39)
  rw [e0] at hA
  have k2 := k1.alloc k1.size (madeX M.pn)
  have hA2 := alloc_block (madeX M.pn) hA
  have hL2 := (listx_made ((w.alloc (.cells #[.int .i64 a, .int .i64 b, .int .i64 c] 34)).alloc (memO M.c (.slice ta M.tn tc) (.slice qa M.pn qc) 39)) M.pn (by unfold maxLen; omega)).congr (Q := upToP M.p 0) (U := fun _ => .slice none 0 0) (fun i hi => by simp [upToP]) (fun _ _ => rfl)
  rw [e1] at hL2
  have e2 : (((w.alloc (.cells #[.int .i64 a, .int .i64 b, .int .i64 c] 34)).alloc (memO M.c (.slice ta M.tn tc) (.slice qa M.pn qc) 39)).alloc (madeX M.pn)).heap.size = w.heap.size + 1 + 1 + 1 := by simp
  have k3 := (k2.alloc k2.size (memB a b c M.c (.slice ta M.tn tc) (.slice (some ⟨w.heap.size + 1 + 1, 0, none⟩) M.pn M.pn))).drew
  have hA3 := alloc_block (memB a b c M.c (.slice ta M.tn tc) (.slice (some ⟨w.heap.size + 1 + 1, 0, none⟩) M.pn M.pn)) hA2
  have hM3 := heap_alloc_new (((w.alloc (.cells #[.int .i64 a, .int .i64 b, .int .i64 c] 34)).alloc (memO M.c (.slice ta M.tn tc) (.slice qa M.pn qc) 39)).alloc (madeX M.pn)) (memB a b c M.c (.slice ta M.tn tc) (.slice (some ⟨w.heap.size + 1 + 1, 0, none⟩) M.pn M.pn))
  rw [e2] at hM3
  have hL3 := hL2.below ((Below.refl _ _).alloc (Nat.le_refl _) (memB a b c M.c (.slice ta M.tn tc) (.slice (some ⟨w.heap.size + 1 + 1, 0, none⟩) M.pn M.pn)))
  obtain ⟨p0, p1, p2, _, _, _⟩ := three hP
  obtain ⟨a0, a1, a2, _, _, _⟩ := three hA
  have H := Lib.hid h
  have HN := Lib.hid hns
  clear h hns hsl
  go_enter Try.func20, Try.ntmps20
  go_wp2_with fail
  go_region
  have hA4 : ((((w.alloc (.cells #[.int .i64 a, .int .i64 b, .int .i64 c] 34)).alloc (memO M.c (.slice ta M.tn tc) (.slice qa M.pn qc) 39)).alloc (madeX M.pn)).alloc (memB a b c M.c (.slice ta M.tn tc) (.slice (some ⟨w.heap.size + 1 + 1, 0, none⟩) M.pn M.pn))).drew.heap[w.heap.size + 1]? = some (memO M.c (.slice ta M.tn tc) (.slice qa M.pn qc) 39) := hA3
  have hM4 : ((((w.alloc (.cells #[.int .i64 a, .int .i64 b, .int .i64 c] 34)).alloc (memO M.c (.slice ta M.tn tc) (.slice qa M.pn qc) 39)).alloc (madeX M.pn)).alloc (memB a b c M.c (.slice ta M.tn tc) (.slice (some ⟨w.heap.size + 1 + 1, 0, none⟩) M.pn M.pn))).drew.heap[w.heap.size + 1 + 1 + 1]? = some (memB a b c M.c (.slice ta M.tn tc) (.slice (some ⟨w.heap.size + 1 + 1, 0, none⟩) M.pn M.pn)) := hM3
  have hL4 : ListXAt ((((w.alloc (.cells #[.int .i64 a, .int .i64 b, .int .i64 c] 34)).alloc (memO M.c (.slice ta M.tn tc) (.slice qa M.pn qc) 39)).alloc (madeX M.pn)).alloc (memB a b c M.c (.slice ta M.tn tc) (.slice (some ⟨w.heap.size + 1 + 1, 0, none⟩) M.pn M.pn))).drew (w.heap.size + 1 + 1) (w.heap.size + 1 + 1) M.pn M.pn (upToP M.p 0) (fun _ => .slice none 0 0) := hL3
  clear hA3 hM3 hL3 hL2 hA2 k2 hmk p0 p1 p2 a0 a1 a2 hP hA k0 k1 e0 e1 e2
  generalize ((((w.alloc (.cells #[.int .i64 a, .int .i64 b, .int .i64 c] 34)).alloc (memO M.c (.slice ta M.tn tc) (.slice qa M.pn qc) 39)).alloc (madeX M.pn)).alloc (memB a b c M.c (.slice ta M.tn tc) (.slice (some ⟨w.heap.size + 1 + 1, 0, none⟩) M.pn M.pn))).drew = wz at k3 hA4 hM4 hL4 ⊢
  obtain ⟨a0, a1, a2, _, _, _⟩ := three hA4
  go_wp2_with fail
  go_loopw [22] (fun i wr => ∃ (k : Nat) (V : Nat → Value), k ≤ M.pn ∧ i = .int .i64 k ∧ wr.heap[w.heap.size + 1 + 1 + 1]? = some (memB a b c M.c (.slice ta M.tn tc) (.slice (some ⟨w.heap.size + 1 + 1, 0, none⟩) M.pn M.pn)) ∧ ListXAt wr (w.heap.size + 1 + 1) (w.heap.size + 1 + 1) M.pn M.pn (upToP M.p k) V ∧ (∀ i, i < k → RowAt w (V i) (M.p i).n (M.p i).f) ∧ Below w.heap.size w wr) (fun i _ => M.pn - (intOf i).toNat)
  case atStart => exact ⟨0, _, Nat.zero_le _, rfl, hM4, hL4, fun i hi => absurd hi (Nat.not_lt_zero _), k3⟩
  case round =>
    clear hA4 hM4 hL4 a0 a1 a2 k3
    obtain ⟨k, V, hk, rfl, hM, hL, hV, kw⟩ := hrel
    have lM := lt_of_block hM
    by_cases hlt : k < M.pn
    · have i1 : (k : Int) < (M.pn : Int) := by omega
      have i0 : (0 : Int) ≤ (k : Int) := by omega
      rcases H.out.2 with ⟨h0, _⟩ | ⟨sb, soff, scap, es, sl, sc⟩
      · omega
      injection es with es1 es2 es3
      subst es1 es3
      obtain ⟨pa, pc, r0, r1, r2, r3, srow⟩ := sc k hlt
      have s0 := (kw.cell (p := ⟨sb, soff + k * 4, none⟩) sl).trans r0
      have s1 := (kw.cell (p := ⟨sb, soff + k * 4 + 1, none⟩) sl).trans r1
      have s2 := (kw.cell (p := ⟨sb, soff + k * 4 + 2, none⟩) sl).trans r2
      have s3 := (kw.cell (p := ⟨sb, soff + k * 4 + 3, none⟩) sl).trans r3
      clear r0 r1 r2 r3
      have hMa := alloc_block (.cells #[.slice pa (M.p k).n pc, .int .i64 (M.p k).l, .int .i64 (M.p k).e, .int .i64 (M.p k).d] 75) hM
      have hXa := heap_alloc_new wr (.cells #[.slice pa (M.p k).n pc, .int .i64 (M.p k).l, .int .i64 (M.p k).e, .int .i64 (M.p k).d] 75)
      have lXa := lt_of_block hXa
      have lMa := lt_of_block hMa
      have ka := kw.alloc kw.size (.cells #[.slice pa (M.p k).n pc, .int .i64 (M.p k).l, .int .i64 (M.p k).e, .int .i64 (M.p k).d] 75)
      have hLa := hL.below ((Below.refl wr.heap.size wr).alloc (Nat.le_refl _) (.cells #[.slice pa (M.p k).n pc, .int .i64 (M.p k).l, .int .i64 (M.p k).e, .int .i64 (M.p k).d] 75))
      obtain ⟨m0, m1, m2, m3, m4, m5⟩ := six hMa
      obtain ⟨x0, x1, x2, x3, _, _, _, _⟩ := four hXa
      go_wp2_with fail
      go_region_law (first
        | (go_simp; go_at_call 39; refine (processorOf_any (M.p k).l (M.p k).e (M.p k).d ⟨_, _, rfl⟩).mono ?_; rintro x w1 ⟨rfl, hb⟩
           replace hb := (Below.refl _ (wr.alloc (.cells #[.slice pa (M.p k).n pc, .int .i64 (M.p k).l, .int .i64 (M.p k).e, .int .i64 (M.p k).d] 75))).drew.trans (hb.mono (Nat.le_refl _))
           have hL1 := hLa.below hb
           have fr := hL1.free
           have f0 := fr (k * 4); have f1 := fr (k * 4 + 1); have f2 := fr (k * 4 + 2); have f3 := fr (k * 4 + 3)
           obtain ⟨d0, d1, d2, d3⟩ := hL1.cells hlt
           have hM1 := b_block hb hMa lMa
           obtain ⟨n0, n1, n2, n3, n4, n5⟩ := six hM1
           have k1 := ka.trans (hb.mono ka.size)))
      all_goals
        have hLn := (hL1.put hlt (.slice pa (M.p k).n pc) (M.p k)).congr (upToP_put (P := M.p)) (fun _ _ => rfl)
        have hMn := (heap_setX w1 (w.heap.size + 1 + 1) k (.slice pa (M.p k).n pc) (M.p k).l (M.p k).e (M.p k).d (x := w.heap.size + 1 + 1 + 1) (by omega)).trans hM1
        have kn := b_setX k1 (g := w.heap.size + 1 + 1) (by omega) k (.slice pa (M.p k).n pc) (M.p k).l (M.p k).e (M.p k).d
        have hVn : ∀ i, i < k + 1 → RowAt w (putV V k (.slice pa (M.p k).n pc) i) (M.p i).n (M.p i).f := fun i hi => by
          by_cases e : i = k
          · subst e; rw [putV_same]; exact srow
          · rw [putV_other V _ e]; exact hV i (by omega)
        clear n0 n1 n2 n3 n4 n5 m0 m1 m2 m3 m4 m5 x0 x1 x2 x3 s0 s1 s2 s3 d0 d1 d2 d3 f0 f1 f2 f3 hV hL hLa hL1
        go_wp2
        exact ⟨⟨k + 1, _, by omega, by go_num, hMn, hLn, hVn, kn⟩, by simp only [intOf]; omega⟩
    · have hkn : k = M.pn := by omega
      subst hkn
      have i1 : ¬ (M.pn : Int) < (M.pn : Int) := by omega
      go_wp2
      go_ret
      exact ⟨_, rfl, ⟨_, _, V, by omega, hM, H.out.1, (hL.congr (Q := M.p) (fun i hi => by simp [upToP, hi]) (fun _ _ => rfl)).mono (by omega), hV⟩, kw⟩

theorem seen_any (a b c : Int) {tv pv : Value} {M : Me} {w : World} (hs : sizeM M ≤ 1048576) (h : MemAt w tv pv M) :
    Calls Try.prog 20 #[.agg #[.int .i64 a, .int .i64 b, .int .i64 c], meV M.c tv pv] w fun x w' => ∃ mb, x = .returned (ptrV mb) ∧ SeenAt w' mb a b c M ∧ Below w.heap.size w w' :=
  (seenIn_any a b c hs h).mono fun x w' ⟨mb, h1, h2, h3⟩ => ⟨mb, h1, h2.seen h3, h3⟩

end Go.Proofs.Ytcfkginbkammoaa

/-
  A memory as the program works with it (chapter 5): is it right? MemOk.
-/
namespace Go.Proofs.Ytcfkginbkammoaa
open Go.RowKit Go.Joins
set_option linter.unusedVariables false

theorem allB_iff {g : Nat → Bool} : ∀ {n : Nat}, allB g n = true ↔ ∀ i, i < n → g i = true
  | 0 => ⟨fun _ i hi => absurd hi (Nat.not_lt_zero _), fun _ => rfl⟩
  | n + 1 => by
    constructor
    · exact allB_at
    · intro h
      rw [allB, allB_iff.2 (fun i hi => h i (by omega)), h n (by omega)]; rfl
theorem slotsOk_all {M : Me} {k e : Int} {f : Slots} : ∀ n, slotsOkB M k e f n = allB (fun i => slotOkB M k (f i) && earlyOkB M e (f i)) n
  | 0 => rfl
  | n + 1 => by rw [slotsOkB, allB, slotsOk_all n]
theorem allB_and {g h : Nat → Bool} : ∀ n, allB (fun i => g i && h i) n = (allB g n && allB h n)
  | 0 => rfl
  | n + 1 => by
    rw [allB, allB, allB, allB_and n]
    cases allB g n <;> cases allB h n <;> cases g n <;> cases h n <;> rfl
theorem allB_congr {g h : Nat → Bool} : ∀ n, (∀ i, i < n → g i = h i) → allB g n = allB h n
  | 0, _ => rfl
  | n + 1, e => by rw [allB, allB, allB_congr n (fun i hi => e i (by omega)), e n (by omega)]
theorem early_over {M : Me} {e : Int} (he : e = -1 ∨ 0 ≤ e) (s : Int × Int) : earlyOkB M e s = !ovB e (M.t s.1.toNat) := by
  unfold earlyOkB ovB
  have : decide (e < 0) = (e == -1) := by
    rcases he with rfl | he
    · rfl
    · rw [show (e == -1) = false from beq_eq_false_iff_ne.2 (by omega)]; simp; omega
  rw [this]
theorem agree_split (a b c : Int) (M : Me) (k : Nat) (hp : planB a b c = true) : agreeB a b c M k = (procX a b c M k && agreeX M k) := by
  unfold agreeB procX agreeX
  rw [procOkB_eq, hp, Bool.true_and]
  show (rightB _ _ _ _ _ _ _ _ && _) = _
  cases hr : rightB a b c (M.p k).f (M.p k).n (M.p k).l (M.p k).e (M.p k).d
  · rfl
  · have he : (M.p k).e = -1 ∨ 0 ≤ (M.p k).e := by
      unfold rightB at hr
      rw [Bool.and_eq_true, Bool.and_eq_true, Bool.or_eq_true] at hr
      rcases hr.1.2 with h | h
      · exact .inl (by simpa using h)
      · exact .inr (inB_iff.1 h).1
    rw [Bool.true_and, Bool.true_and, slotsOk_all, allB_and, show allB (fun i => earlyOkB M (M.p k).e ((M.p k).f i)) (M.p k).n = allB (fun i => !ovB (M.p k).e (M.t (((M.p k).f i).1).toNat)) (M.p k).n from allB_congr _ (fun i _ => early_over he _),
      show (delsF M (M.p k).f (M.p k).n == (M.p k).d) = ((M.p k).d == delsF M (M.p k).f (M.p k).n) from Bool.beq_comm]
    cases allB (fun i => slotOkB M k ((M.p k).f i)) (M.p k).n <;> cases allB (fun i => !ovB (M.p k).e (M.t (((M.p k).f i).1).toNat)) (M.p k).n <;> cases (M.p k).d == delsF M (M.p k).f (M.p k).n <;> rfl
theorem memOk_split (a b c : Int) (M : Me) :
    memOkB a b c M = (sizesX a b c M && ((allB (fun i => timerB a b c (M.t i)) M.tn && allB (procX a b c M) M.pn) && (allB (agreeX M) M.pn && allB (placeOkB M) M.tn))) := by
  unfold memOkB sizesX
  cases hp : planB a b c
  · rfl
  · rw [show allB (agreeB a b c M) M.pn = (allB (procX a b c M) M.pn && allB (agreeX M) M.pn) by rw [← allB_and]; exact allB_congr _ (fun i _ => agree_split a b c M i hp),
      show allB (fitB a b c M) M.tn = (allB (fun i => timerB a b c (M.t i)) M.tn && allB (placeOkB M) M.tn) by rw [← allB_and]; rfl,
      show (!decide (c < (M.tn : Int))) = decide ((M.tn : Int) ≤ c) by rw [← decide_not]; exact decide_eq_decide.2 (by omega)]
    cases inB M.c 0 999999999 <;> cases decide ((M.tn : Int) ≤ c) <;> cases ((M.pn : Int) == a) <;> cases allB (fun i => timerB a b c (M.t i)) M.tn <;> cases allB (procX a b c M) M.pn <;> cases allB (agreeX M) M.pn <;> cases allB (placeOkB M) M.tn <;> rfl

set_option maxRecDepth 100000 in
set_option maxHeartbeats 4000000 in
theorem memRight_any {mb : Nat} {a b c : Int} {M : Me} {w : World} (hs : sizeM M ≤ 1048576) (h : SeenAt w mb a b c M) :
    Calls Try.prog 21 #[ptrV mb] w fun e w' => e = .returned (.bool (memOkB a b c M)) ∧ Below w.heap.size w w' := by
  rw [memOk_split]
  have HS := Lib.hid h
  cases hz : sizesX a b c M
  · have HZ := Lib.hid hz
    clear h hz
    go_enter Try.func21, Try.ntmps21
    go_wp2_with (first
      | (go_at_call 40; refine (sizesRight_any hs HS.out).mono ?_; rintro x w1 ⟨rfl, hb⟩; rw [HZ.out]))
    go_ret
    exact ⟨rfl, hb⟩
  have HZ := Lib.hid hz
  cases hp : (allB (fun i => timerB a b c (M.t i)) M.tn && allB (procX a b c M) M.pn)
  · have HP := Lib.hid hp
    clear h hz hp
    go_enter Try.func21, Try.ntmps21
    go_wp2_with (first
      | (go_at_call 40; refine (sizesRight_any hs HS.out).mono ?_; rintro x w1 ⟨rfl, hb⟩; rw [HZ.out])
      | (go_at_call 41; refine (partsRight_any hs (HS.out.below hb)).mono ?_; rintro x w2 ⟨rfl, hb2⟩; rw [HP.out]))
    go_ret
    exact ⟨rfl, hb.trans (hb2.mono hb.size)⟩
  · have HP := Lib.hid hp
    have hpl : ∀ i, i < M.tn → (M.t i).pl = -1 ∨ 0 ≤ (M.t i).pl ∧ (M.t i).pl < (M.pn : Int) := by
      rw [Bool.and_eq_true] at hp
      unfold sizesX at hz
      simp only [Bool.and_eq_true, beq_iff_eq] at hz
      intro i hi
      have := timerB_pl (allB_at hp.1 i hi)
      have he := hz.2.2.2
      omega
    have HPL := Lib.hid hpl
    clear h hz hp hpl
    go_enter Try.func21, Try.ntmps21
    go_wp2_with (first
      | (go_at_call 40; refine (sizesRight_any hs HS.out).mono ?_; rintro x w1 ⟨rfl, hb⟩; rw [HZ.out])
      | (go_at_call 41; refine (partsRight_any hs (HS.out.below hb)).mono ?_; rintro x w2 ⟨rfl, hb2⟩; rw [HP.out]; have k2 := hb.trans (hb2.mono hb.size))
      | (go_at_call 42; refine (agrees_any hs (HS.out.below k2) HPL.out).mono ?_; rintro x w3 ⟨rfl, hb3⟩))
    go_ret
    exact ⟨rfl, k2.trans (hb3.mono k2.size)⟩

end Go.Proofs.Ytcfkginbkammoaa

/-
  Is a step fit, in the program (chapter 9).
-/
namespace Go.Proofs.Ytcfkginbkammoaa
open Go.Deep Go.ChangeShapes Go.WideShapes Go.ChangeAt Go.RowKit Go.Joins
set_option linter.unusedVariables false

set_option maxRecDepth 100000 in
set_option maxHeartbeats 8000000 in
theorem imFit_any (a b c d : Int) (h : Hd) {tv pv : Value} {M : Me} {w : World} (hs : sizeM M ≤ 1048576) (hm : MemAt w tv pv M) :
    Calls Try.prog 9 #[.agg #[.int .i64 a, .int .i64 b, .int .i64 c], meV M.c tv pv, .int .i64 d, hdV h] w fun e w' => e = .returned (.bool (stepFit a b c d M h)) ∧ Below w.heap.size w w' := by
  obtain ⟨va, vc, qa, qc, rfl, rfl⟩ := hm.form
  have hn := (sizeM_le hs).1
  have k0 := ((((Below.refl w.heap.size w).alloc (Nat.le_refl _) (.cells #[.int .i64 a, .int .i64 b, .int .i64 c] 34)).alloc (by simp) (.cells #[.int .i64 M.c, .slice va M.tn vc, .slice qa M.pn qc] 39)).alloc (by simp; omega) (.cells #[.int .i64 h.pos, .int .i64 h.call.code, .int .i64 h.call.a, .int .i64 h.call.b, .int .i64 h.call.c, .int .i64 h.tim, .int .i64 h.whe, .bool h.had, .int .i64 h.cnt, .int .i64 h.beg, .int .i64 h.rep, .int .i64 h.out] 43))
  have HM := Lib.hid (hm.below k0)
  clear hm
  cases h1 : memOkB a b c M
  · skip
    go_enter Try.func9, Try.ntmps9
    go_wp2_with fail
    go_at_call 20; refine (seen_any a b c hs HM.out).mono ?_; rintro x w1 ⟨mb, rfl, hS, hb⟩
    have HS := Lib.hid hS
    have HK := Lib.hid (k0.trans (hb.mono k0.size))
    have kk := Below.refl w1.heap.size w1
    obtain ⟨hc, hf⟩ := bcell hb
    have hz := hb.size
    simp at hz
    have lz0 : w.heap.size < w1.heap.size := by omega
    have lz1 : w.heap.size + 1 < w1.heap.size := by omega
    have lz2 : w.heap.size + 1 + 1 < w1.heap.size := by omega
    clear hS hb k0 hz
    go_wp2_with (first
      | (go_at_call 21; refine (memRight_any hs (HS.out.below kk)).mono ?_; rintro e w2 ⟨rfl, hb⟩; replace kk := kk.trans (hb.mono kk.size); clear hb; obtain ⟨hc2, hf2⟩ := bcell kk)
      | (go_at_call 22; refine (imHandOk_any _ _ _ _ _).mono ?_; rintro e w2 ⟨rfl, hb⟩; replace kk := kk.trans (hb.mono kk.size); clear hb; (try clear hc2 hf2); obtain ⟨hc2, hf2⟩ := bcell kk)
      | (go_at_call 23; refine (hasWorker_any _ _ _ _ _).mono ?_; rintro e w2 ⟨rfl, hb⟩; replace kk := kk.trans (hb.mono kk.size); clear hb; (try clear hc2 hf2); obtain ⟨hc2, hf2⟩ := bcell kk)
      | (go_at_call 24; refine (hasTimer_any hn (HS.out.below kk) _).mono ?_; rintro e w2 ⟨rfl, hb⟩; replace kk := kk.trans (hb.mono kk.size); clear hb; (try clear hc2 hf2); obtain ⟨hc2, hf2⟩ := bcell kk))
    go_ret
    exact ⟨ret_bool' (by simp [stepFit, h1]), HK.out.trans (kk.mono HK.out.size)⟩
  cases h2 : handB a b c h
  · skip
    go_enter Try.func9, Try.ntmps9
    go_wp2_with fail
    go_at_call 20; refine (seen_any a b c hs HM.out).mono ?_; rintro x w1 ⟨mb, rfl, hS, hb⟩
    have HS := Lib.hid hS
    have HK := Lib.hid (k0.trans (hb.mono k0.size))
    have kk := Below.refl w1.heap.size w1
    obtain ⟨hc, hf⟩ := bcell hb
    have hz := hb.size
    simp at hz
    have lz0 : w.heap.size < w1.heap.size := by omega
    have lz1 : w.heap.size + 1 < w1.heap.size := by omega
    have lz2 : w.heap.size + 1 + 1 < w1.heap.size := by omega
    clear hS hb k0 hz
    go_wp2_with (first
      | (go_at_call 21; refine (memRight_any hs (HS.out.below kk)).mono ?_; rintro e w2 ⟨rfl, hb⟩; replace kk := kk.trans (hb.mono kk.size); clear hb; obtain ⟨hc2, hf2⟩ := bcell kk)
      | (go_at_call 22; refine (imHandOk_any _ _ _ _ _).mono ?_; rintro e w2 ⟨rfl, hb⟩; replace kk := kk.trans (hb.mono kk.size); clear hb; (try clear hc2 hf2); obtain ⟨hc2, hf2⟩ := bcell kk)
      | (go_at_call 23; refine (hasWorker_any _ _ _ _ _).mono ?_; rintro e w2 ⟨rfl, hb⟩; replace kk := kk.trans (hb.mono kk.size); clear hb; (try clear hc2 hf2); obtain ⟨hc2, hf2⟩ := bcell kk)
      | (go_at_call 24; refine (hasTimer_any hn (HS.out.below kk) _).mono ?_; rintro e w2 ⟨rfl, hb⟩; replace kk := kk.trans (hb.mono kk.size); clear hb; (try clear hc2 hf2); obtain ⟨hc2, hf2⟩ := bcell kk))
    go_ret
    exact ⟨ret_bool' (by simp [stepFit, h1, h2]), HK.out.trans (kk.mono HK.out.size)⟩
  cases h3 : workB a b c d
  · skip
    go_enter Try.func9, Try.ntmps9
    go_wp2_with fail
    go_at_call 20; refine (seen_any a b c hs HM.out).mono ?_; rintro x w1 ⟨mb, rfl, hS, hb⟩
    have HS := Lib.hid hS
    have HK := Lib.hid (k0.trans (hb.mono k0.size))
    have kk := Below.refl w1.heap.size w1
    obtain ⟨hc, hf⟩ := bcell hb
    have hz := hb.size
    simp at hz
    have lz0 : w.heap.size < w1.heap.size := by omega
    have lz1 : w.heap.size + 1 < w1.heap.size := by omega
    have lz2 : w.heap.size + 1 + 1 < w1.heap.size := by omega
    clear hS hb k0 hz
    go_wp2_with (first
      | (go_at_call 21; refine (memRight_any hs (HS.out.below kk)).mono ?_; rintro e w2 ⟨rfl, hb⟩; replace kk := kk.trans (hb.mono kk.size); clear hb; obtain ⟨hc2, hf2⟩ := bcell kk)
      | (go_at_call 22; refine (imHandOk_any _ _ _ _ _).mono ?_; rintro e w2 ⟨rfl, hb⟩; replace kk := kk.trans (hb.mono kk.size); clear hb; (try clear hc2 hf2); obtain ⟨hc2, hf2⟩ := bcell kk)
      | (go_at_call 23; refine (hasWorker_any _ _ _ _ _).mono ?_; rintro e w2 ⟨rfl, hb⟩; replace kk := kk.trans (hb.mono kk.size); clear hb; (try clear hc2 hf2); obtain ⟨hc2, hf2⟩ := bcell kk)
      | (go_at_call 24; refine (hasTimer_any hn (HS.out.below kk) _).mono ?_; rintro e w2 ⟨rfl, hb⟩; replace kk := kk.trans (hb.mono kk.size); clear hb; (try clear hc2 hf2); obtain ⟨hc2, hf2⟩ := bcell kk))
    go_ret
    exact ⟨ret_bool' (by simp [stepFit, h1, h2, h3]), HK.out.trans (kk.mono HK.out.size)⟩
  by_cases h4 : h.tim = -1
  case pos =>
    have h4b : (h.tim == -1) = true := by simpa using h4
    have H4 := Lib.hid h4
    clear h4
    go_enter Try.func9, Try.ntmps9
    go_wp2_with fail
    go_at_call 20; refine (seen_any a b c hs HM.out).mono ?_; rintro x w1 ⟨mb, rfl, hS, hb⟩
    have HS := Lib.hid hS
    have HK := Lib.hid (k0.trans (hb.mono k0.size))
    have kk := Below.refl w1.heap.size w1
    obtain ⟨hc, hf⟩ := bcell hb
    have hz := hb.size
    simp at hz
    have lz0 : w.heap.size < w1.heap.size := by omega
    have lz1 : w.heap.size + 1 < w1.heap.size := by omega
    have lz2 : w.heap.size + 1 + 1 < w1.heap.size := by omega
    clear hS hb k0 hz
    go_wp2_with (first
      | (go_at_call 21; refine (memRight_any hs (HS.out.below kk)).mono ?_; rintro e w2 ⟨rfl, hb⟩; replace kk := kk.trans (hb.mono kk.size); clear hb; obtain ⟨hc2, hf2⟩ := bcell kk)
      | (go_at_call 22; refine (imHandOk_any _ _ _ _ _).mono ?_; rintro e w2 ⟨rfl, hb⟩; replace kk := kk.trans (hb.mono kk.size); clear hb; (try clear hc2 hf2); obtain ⟨hc2, hf2⟩ := bcell kk)
      | (go_at_call 23; refine (hasWorker_any _ _ _ _ _).mono ?_; rintro e w2 ⟨rfl, hb⟩; replace kk := kk.trans (hb.mono kk.size); clear hb; (try clear hc2 hf2); obtain ⟨hc2, hf2⟩ := bcell kk)
      | (go_at_call 24; refine (hasTimer_any hn (HS.out.below kk) _).mono ?_; rintro e w2 ⟨rfl, hb⟩; replace kk := kk.trans (hb.mono kk.size); clear hb; (try clear hc2 hf2); obtain ⟨hc2, hf2⟩ := bcell kk))
    go_ret
    exact ⟨ret_bool' (by simp [stepFit, h1, h2, h3, H4.out]), HK.out.trans (kk.mono HK.out.size)⟩
  have h4b : (h.tim == -1) = false := by simpa using h4
  go_enter Try.func9, Try.ntmps9
  go_wp2_with fail
  go_at_call 20; refine (seen_any a b c hs HM.out).mono ?_; rintro x w1 ⟨mb, rfl, hS, hb⟩
  have HS := Lib.hid hS
  have HK := Lib.hid (k0.trans (hb.mono k0.size))
  have kk := Below.refl w1.heap.size w1
  obtain ⟨hc, hf⟩ := bcell hb
  have hz := hb.size
  simp at hz
  have lz0 : w.heap.size < w1.heap.size := by omega
  have lz1 : w.heap.size + 1 < w1.heap.size := by omega
  have lz2 : w.heap.size + 1 + 1 < w1.heap.size := by omega
  clear hS hb k0 hz
  go_wp2_with (first
    | (go_at_call 21; refine (memRight_any hs (HS.out.below kk)).mono ?_; rintro e w2 ⟨rfl, hb⟩; replace kk := kk.trans (hb.mono kk.size); clear hb; obtain ⟨hc2, hf2⟩ := bcell kk)
    | (go_at_call 22; refine (imHandOk_any _ _ _ _ _).mono ?_; rintro e w2 ⟨rfl, hb⟩; replace kk := kk.trans (hb.mono kk.size); clear hb; (try clear hc2 hf2); obtain ⟨hc2, hf2⟩ := bcell kk)
    | (go_at_call 23; refine (hasWorker_any _ _ _ _ _).mono ?_; rintro e w2 ⟨rfl, hb⟩; replace kk := kk.trans (hb.mono kk.size); clear hb; (try clear hc2 hf2); obtain ⟨hc2, hf2⟩ := bcell kk)
    | (go_at_call 24; refine (hasTimer_any hn (HS.out.below kk) _).mono ?_; rintro e w2 ⟨rfl, hb⟩; replace kk := kk.trans (hb.mono kk.size); clear hb; (try clear hc2 hf2); obtain ⟨hc2, hf2⟩ := bcell kk))
  go_ret
  exact ⟨ret_bool' (by simp [stepFit, h1, h2, h3, h4]), HK.out.trans (kk.mono HK.out.size)⟩

end Go.Proofs.Ytcfkginbkammoaa
