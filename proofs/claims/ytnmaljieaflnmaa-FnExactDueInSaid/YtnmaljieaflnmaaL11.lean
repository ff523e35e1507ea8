/-
  A memory as the program works with it (chapter 5): seen in a Mem.
-/
import Derived.Test.YtnmaljieaflnmaaL07
import Derived.Deep.RegionLaw
import Derived.Test.YtnmaljieaflnmaaL10
import Derived.Test.YtnmaljieaflnmaaL05
import Derived.Test.YtnmaljieaflnmaaL01
import Derived.Maps.AppendAt
import Derived.Laws.AppendOwn
import Derived.Test.YtnmaljieaflnmaaL03
import Derived.Test.YtnmaljieaflnmaaL00
namespace Go.Proofs.Ytnmaljieaflnmaa
open Go.RowKit Go.Joins
set_option linter.unusedVariables false

/-- a memory that is seen in a Mem, which stood in the world W: its own block, its own list of processors; the timers and the slots are another one's -/
def SeenIn (w W : World) (mb : Nat) (a b c : Int) (M : Me) : Prop :=
  ∃ tv g V, W.heap.size ≤ mb ∧ w.heap[mb]? = some (memB a b c M.c tv (.slice (some ⟨g, 0, none⟩) M.pn M.pn)) ∧ RowTAt W tv M.tn M.t ∧ ListXAt w W.heap.size g M.pn M.pn M.p V ∧ ∀ i, i < M.pn → RowAt W (V i) (M.p i).n (M.p i).f
theorem SeenIn.seen {w W : World} {mb : Nat} {a b c : Int} {M : Me} (h : SeenIn w W mb a b c M) (hb : Below W.heap.size W w) : SeenAt w mb a b c M := by
  obtain ⟨tv, g, V, _, h1, h2, h3, h4⟩ := h
  exact ⟨tv, _, h1, h2.below hb, h3.row fun i hi => (h4 i hi).below hb⟩
theorem SeenIn.below {w w' W : World} {mb : Nat} {a b c : Int} {M : Me} (h : SeenIn w W mb a b c M) (hb : Below w.heap.size w w') : SeenIn w' W mb a b c M := by
  obtain ⟨tv, g, V, h0, h1, h2, h3, h4⟩ := h
  exact ⟨tv, g, V, h0, b_block hb h1 (lt_of_block h1), h2, h3.below hb, h4⟩

set_option maxRecDepth 100000 in
set_option maxHeartbeats 4000000 in
theorem seenIn_any (a b c : Int) {tv pv : Value} {M : Me} {w : World} (hs : sizeM M ≤ 1048576) (h : MemAt w tv pv M) :
    Calls Try.prog 69 #[.agg #[.int .i64 a, .int .i64 b, .int .i64 c], meV M.c tv pv] w fun x w' => ∃ mb, x = .returned (ptrV mb) ∧ SeenIn w' w mb a b c M ∧ Below w.heap.size w w' := by
  obtain ⟨htn, hpn, hsl, hns⟩ := sizeM_le hs
  obtain ⟨ta, tc, qa, qc, rfl, rfl⟩ := h.form
  have hmk := run_make_px M.pn hpn
  have k0 := (Below.refl w.heap.size w).alloc (Nat.le_refl _) (.cells #[.int .i64 a, .int .i64 b, .int .i64 c] 25)
  have e0 : (w.alloc (.cells #[.int .i64 a, .int .i64 b, .int .i64 c] 25)).heap.size = w.heap.size + 1 := by simp
  have k1 := k0.alloc k0.size (memO M.c (.slice ta M.tn tc) (.slice qa M.pn qc) 54)
  have e1 : ((w.alloc (.cells #[.int .i64 a, .int .i64 b, .int .i64 c] 25)).alloc (memO M.c (.slice ta M.tn tc) (.slice qa M.pn qc) 54)).heap.size = w.heap.size + 1 + 1 := by simp
  have hP := alloc_block (memO M.c (.slice ta M.tn tc) (.slice qa M.pn qc) 54) (heap_alloc_new w (.cells #[.int .i64 a, .int .i64 b, .int .i64 c] 25))
  have hA := heap_alloc_new (w.alloc (.cells #[.int .i64 a, .int .i64 b, .int .i64 c] 25)) (memO M.c (.slice ta M.tn tc) (.slice qa M.pn qc) 54)
  rw [e0] at hA
  have k2 := k1.alloc k1.size (madeX M.pn)
  have hA2 := alloc_block (madeX M.pn) hA
  have hL2 := (listx_made ((w.alloc (.cells #[.int .i64 a, .int .i64 b, .int .i64 c] 25)).alloc (memO M.c (.slice ta M.tn tc) (.slice qa M.pn qc) 54)) M.pn (by unfold maxLen; omega)).congr (Q := upToP M.p 0) (U := fun _ => .slice none 0 0) (fun i hi => by simp [upToP]) (fun _ _ => rfl)
  rw [e1] at hL2
  have e2 : (((w.alloc (.cells #[.int .i64 a, .int .i64 b, .int .i64 c] 25)).alloc (memO M.c (.slice ta M.tn tc) (.slice qa M.pn qc) 54)).alloc (madeX M.pn)).heap.size = w.heap.size + 1 + 1 + 1 := by simp
  have k3 := (k2.alloc k2.size (memB a b c M.c (.slice ta M.tn tc) (.slice (some ⟨w.heap.size + 1 + 1, 0, none⟩) M.pn M.pn))).drew
  have hA3 := alloc_block (memB a b c M.c (.slice ta M.tn tc) (.slice (some ⟨w.heap.size + 1 + 1, 0, none⟩) M.pn M.pn)) hA2
  have hM3 := heap_alloc_new (((w.alloc (.cells #[.int .i64 a, .int .i64 b, .int .i64 c] 25)).alloc (memO M.c (.slice ta M.tn tc) (.slice qa M.pn qc) 54)).alloc (madeX M.pn)) (memB a b c M.c (.slice ta M.tn tc) (.slice (some ⟨w.heap.size + 1 + 1, 0, none⟩) M.pn M.pn))
  rw [e2] at hM3
  have hL3 := hL2.below ((Below.refl _ _).alloc (Nat.le_refl _) (memB a b c M.c (.slice ta M.tn tc) (.slice (some ⟨w.heap.size + 1 + 1, 0, none⟩) M.pn M.pn)))
  obtain ⟨p0, p1, p2, _, _, _⟩ := three hP
  obtain ⟨a0, a1, a2, _, _, _⟩ := three hA
  have H := Lib.hid h
  have HN := Lib.hid hns
  clear h hns hsl
  go_enter Try.func69, Try.ntmps69
  go_wp2_with fail
  go_region
  have hA4 : ((((w.alloc (.cells #[.int .i64 a, .int .i64 b, .int .i64 c] 25)).alloc (memO M.c (.slice ta M.tn tc) (.slice qa M.pn qc) 54)).alloc (madeX M.pn)).alloc (memB a b c M.c (.slice ta M.tn tc) (.slice (some ⟨w.heap.size + 1 + 1, 0, none⟩) M.pn M.pn))).drew.heap[w.heap.size + 1]? = some (memO M.c (.slice ta M.tn tc) (.slice qa M.pn qc) 54) := hA3
  have hM4 : ((((w.alloc (.cells #[.int .i64 a, .int .i64 b, .int .i64 c] 25)).alloc (memO M.c (.slice ta M.tn tc) (.slice qa M.pn qc) 54)).alloc (madeX M.pn)).alloc (memB a b c M.c (.slice ta M.tn tc) (.slice (some ⟨w.heap.size + 1 + 1, 0, none⟩) M.pn M.pn))).drew.heap[w.heap.size + 1 + 1 + 1]? = some (memB a b c M.c (.slice ta M.tn tc) (.slice (some ⟨w.heap.size + 1 + 1, 0, none⟩) M.pn M.pn)) := hM3
  have hL4 : ListXAt ((((w.alloc (.cells #[.int .i64 a, .int .i64 b, .int .i64 c] 25)).alloc (memO M.c (.slice ta M.tn tc) (.slice qa M.pn qc) 54)).alloc (madeX M.pn)).alloc (memB a b c M.c (.slice ta M.tn tc) (.slice (some ⟨w.heap.size + 1 + 1, 0, none⟩) M.pn M.pn))).drew (w.heap.size + 1 + 1) (w.heap.size + 1 + 1) M.pn M.pn (upToP M.p 0) (fun _ => .slice none 0 0) := hL3
  clear hA3 hM3 hL3 hL2 hA2 k2 hmk p0 p1 p2 a0 a1 a2 hP hA k0 k1 e0 e1 e2
  generalize ((((w.alloc (.cells #[.int .i64 a, .int .i64 b, .int .i64 c] 25)).alloc (memO M.c (.slice ta M.tn tc) (.slice qa M.pn qc) 54)).alloc (madeX M.pn)).alloc (memB a b c M.c (.slice ta M.tn tc) (.slice (some ⟨w.heap.size + 1 + 1, 0, none⟩) M.pn M.pn))).drew = wz at k3 hA4 hM4 hL4 ⊢
  obtain ⟨a0, a1, a2, _, _, _⟩ := three hA4
  go_wp2_with fail
  go_loopw [22] (fun i wr => ∃ (k : Nat) (V : Nat → Value), k ≤ M.pn ∧ i = .int .i64 k ∧ wr.heap[w.heap.size + 1 + 1 + 1]? = some (memB a b c M.c (.slice ta M.tn tc) (.slice (some ⟨w.heap.size + 1 + 1, 0, none⟩) M.pn M.pn)) ∧ ListXAt wr (w.heap.size + 1 + 1) (w.heap.size + 1 + 1) M.pn M.pn (upToP M.p k) V ∧ (∀ i, i < k → RowAt w (V i) (M.p i).n (M.p i).f) ∧ Below w.heap.size w wr) (fun i _ => M.pn - (intOf i).toNat)
  case atStart => exact ⟨0, _, Nat.zero_le _, rfl, hM4, hL4, fun i hi => absurd hi (Nat.not_lt_zero _), k3⟩
  case round =>
    clear hA4 hM4 hL4 a0 a1 a2 k3
    obtain ⟨k, V, hk, rfl, hM, hL, hV, kw⟩ := hrel
    have lM := lt_of_block hM
    by_cases hlt : k < M.pn
    · have i1 : (k : Int) < (M.pn : Int) := by omega
      have i0 : (0 : Int) ≤ (k : Int) := by omega
      rcases H.out.2 with ⟨h0, _⟩ | ⟨sb, soff, scap, es, sl, sc⟩
      · omega
      injection es with es1 es2 es3
      subst es1 es3
      obtain ⟨pa, pc, r0, r1, r2, r3, srow⟩ := sc k hlt
      have s0 := (kw.cell (p := ⟨sb, soff + k * 4, none⟩) sl).trans r0
      have s1 := (kw.cell (p := ⟨sb, soff + k * 4 + 1, none⟩) sl).trans r1
      have s2 := (kw.cell (p := ⟨sb, soff + k * 4 + 2, none⟩) sl).trans r2
      have s3 := (kw.cell (p := ⟨sb, soff + k * 4 + 3, none⟩) sl).trans r3
      clear r0 r1 r2 r3
      have hMa := alloc_block (.cells #[.slice pa (M.p k).n pc, .int .i64 (M.p k).l, .int .i64 (M.p k).e, .int .i64 (M.p k).d] 28) hM
      have hXa := heap_alloc_new wr (.cells #[.slice pa (M.p k).n pc, .int .i64 (M.p k).l, .int .i64 (M.p k).e, .int .i64 (M.p k).d] 28)
      have lXa := lt_of_block hXa
      have lMa := lt_of_block hMa
      have ka := kw.alloc kw.size (.cells #[.slice pa (M.p k).n pc, .int .i64 (M.p k).l, .int .i64 (M.p k).e, .int .i64 (M.p k).d] 28)
      have hLa := hL.below ((Below.refl wr.heap.size wr).alloc (Nat.le_refl _) (.cells #[.slice pa (M.p k).n pc, .int .i64 (M.p k).l, .int .i64 (M.p k).e, .int .i64 (M.p k).d] 28))
      obtain ⟨m0, m1, m2, m3, m4, m5⟩ := six hMa
      obtain ⟨x0, x1, x2, x3, _, _, _, _⟩ := four hXa
      go_wp2_with fail
      go_region_law (first
        | (go_simp; go_at_call 48; refine (processorOf_any (M.p k).l (M.p k).e (M.p k).d ⟨_, _, rfl⟩).mono ?_; rintro x w1 ⟨rfl, hb⟩
           replace hb := (Below.refl _ (wr.alloc (.cells #[.slice pa (M.p k).n pc, .int .i64 (M.p k).l, .int .i64 (M.p k).e, .int .i64 (M.p k).d] 28))).drew.trans (hb.mono (Nat.le_refl _))
           have hL1 := hLa.below hb
           have fr := hL1.free
           have f0 := fr (k * 4); have f1 := fr (k * 4 + 1); have f2 := fr (k * 4 + 2); have f3 := fr (k * 4 + 3)
           obtain ⟨d0, d1, d2, d3⟩ := hL1.cells hlt
           have hM1 := b_block hb hMa lMa
           obtain ⟨n0, n1, n2, n3, n4, n5⟩ := six hM1
           have k1 := ka.trans (hb.mono ka.size)))
      all_goals
        have hLn := (hL1.put hlt (.slice pa (M.p k).n pc) (M.p k)).congr (upToP_put (P := M.p)) (fun _ _ => rfl)
        have hMn := (heap_setX w1 (w.heap.size + 1 + 1) k (.slice pa (M.p k).n pc) (M.p k).l (M.p k).e (M.p k).d (x := w.heap.size + 1 + 1 + 1) (by omega)).trans hM1
        have kn := b_setX k1 (g := w.heap.size + 1 + 1) (by omega) k (.slice pa (M.p k).n pc) (M.p k).l (M.p k).e (M.p k).d
        have hVn : ∀ i, i < k + 1 → RowAt w (putV V k (.slice pa (M.p k).n pc) i) (M.p i).n (M.p i).f := fun i hi => by
          by_cases e : i = k
          · subst e; rw [putV_same]; exact srow
          · rw [putV_other V _ e]; exact hV i (by omega)
        clear n0 n1 n2 n3 n4 n5 m0 m1 m2 m3 m4 m5 x0 x1 x2 x3 s0 s1 s2 s3 d0 d1 d2 d3 f0 f1 f2 f3 hV hL hLa hL1
        go_wp2
        exact ⟨⟨k + 1, _, by omega, by go_num, hMn, hLn, hVn, kn⟩, by simp only [intOf]; omega⟩
    · have hkn : k = M.pn := by omega
      subst hkn
      have i1 : ¬ (M.pn : Int) < (M.pn : Int) := by omega
      go_wp2
      go_ret
      exact ⟨_, rfl, ⟨_, _, V, by omega, hM, H.out.1, (hL.congr (Q := M.p) (fun i hi => by simp [upToP, hi]) (fun _ _ => rfl)).mono (by omega), hV⟩, kw⟩

theorem seen_any (a b c : Int) {tv pv : Value} {M : Me} {w : World} (hs : sizeM M ≤ 1048576) (h : MemAt w tv pv M) :
    Calls Try.prog 69 #[.agg #[.int .i64 a, .int .i64 b, .int .i64 c], meV M.c tv pv] w fun x w' => ∃ mb, x = .returned (ptrV mb) ∧ SeenAt w' mb a b c M ∧ Below w.heap.size w w' :=
  (seenIn_any a b c hs h).mono fun x w' ⟨mb, h1, h2, h3⟩ => ⟨mb, h1, h2.seen h3, h3⟩

end Go.Proofs.Ytnmaljieaflnmaa

/-
  A memory as the program works with it (chapter 5): is it right? MemOk.
-/
namespace Go.Proofs.Ytnmaljieaflnmaa
open Go.RowKit Go.Joins
set_option linter.unusedVariables false

theorem allB_iff {g : Nat → Bool} : ∀ {n : Nat}, allB g n = true ↔ ∀ i, i < n → g i = true
  | 0 => ⟨fun _ i hi => absurd hi (Nat.not_lt_zero _), fun _ => rfl⟩
  | n + 1 => by
    constructor
    · exact allB_at
    · intro h
      rw [allB, allB_iff.2 (fun i hi => h i (by omega)), h n (by omega)]; rfl
theorem slotsOk_all {M : Me} {k e : Int} {f : Slots} : ∀ n, slotsOkB M k e f n = allB (fun i => slotOkB M k (f i) && earlyOkB M e (f i)) n
  | 0 => rfl
  | n + 1 => by rw [slotsOkB, allB, slotsOk_all n]
theorem allB_and {g h : Nat → Bool} : ∀ n, allB (fun i => g i && h i) n = (allB g n && allB h n)
  | 0 => rfl
  | n + 1 => by
    rw [allB, allB, allB, allB_and n]
    cases allB g n <;> cases allB h n <;> cases g n <;> cases h n <;> rfl
theorem allB_congr {g h : Nat → Bool} : ∀ n, (∀ i, i < n → g i = h i) → allB g n = allB h n
  | 0, _ => rfl
  | n + 1, e => by rw [allB, allB, allB_congr n (fun i hi => e i (by omega)), e n (by omega)]
theorem early_over {M : Me} {e : Int} (he : e = -1 ∨ 0 ≤ e) (s : Int × Int) : earlyOkB M e s = !ovB e (M.t s.1.toNat) := by
  unfold earlyOkB ovB
  have : decide (e < 0) = (e == -1) := by
    rcases he with rfl | he
    · rfl
    · rw [show (e == -1) = false from beq_eq_false_iff_ne.2 (by omega)]; simp; omega
  rw [this]
theorem agree_split (a b c : Int) (M : Me) (k : Nat) (hp : planB a b c = true) : agreeB a b c M k = (procX a b c M k && agreeX M k) := by
  unfold agreeB procX agreeX
  rw [procOkB_eq, hp, Bool.true_and]
  show (rightB _ _ _ _ _ _ _ _ && _) = _
  cases hr : rightB a b c (M.p k).f (M.p k).n (M.p k).l (M.p k).e (M.p k).d
  · rfl
  · have he : (M.p k).e = -1 ∨ 0 ≤ (M.p k).e := by
      unfold rightB at hr
      rw [Bool.and_eq_true, Bool.and_eq_true, Bool.or_eq_true] at hr
      rcases hr.1.2 with h | h
      · exact .inl (by simpa using h)
      · exact .inr (inB_iff.1 h).1
    rw [Bool.true_and, Bool.true_and, slotsOk_all, allB_and, show allB (fun i => earlyOkB M (M.p k).e ((M.p k).f i)) (M.p k).n = allB (fun i => !ovB (M.p k).e (M.t (((M.p k).f i).1).toNat)) (M.p k).n from allB_congr _ (fun i _ => early_over he _),
      show (delsF M (M.p k).f (M.p k).n == (M.p k).d) = ((M.p k).d == delsF M (M.p k).f (M.p k).n) from Bool.beq_comm]
    cases allB (fun i => slotOkB M k ((M.p k).f i)) (M.p k).n <;> cases allB (fun i => !ovB (M.p k).e (M.t (((M.p k).f i).1).toNat)) (M.p k).n <;> cases (M.p k).d == delsF M (M.p k).f (M.p k).n <;> rfl
theorem memOk_split (a b c : Int) (M : Me) :
    memOkB a b c M = (sizesX a b c M && ((allB (fun i => timerB a b c (M.t i)) M.tn && allB (procX a b c M) M.pn) && (allB (agreeX M) M.pn && allB (placeOkB M) M.tn))) := by
  unfold memOkB sizesX
  cases hp : planB a b c
  · rfl
  · rw [show allB (agreeB a b c M) M.pn = (allB (procX a b c M) M.pn && allB (agreeX M) M.pn) by rw [← allB_and]; exact allB_congr _ (fun i _ => agree_split a b c M i hp),
      show allB (fitB a b c M) M.tn = (allB (fun i => timerB a b c (M.t i)) M.tn && allB (placeOkB M) M.tn) by rw [← allB_and]; rfl,
      show (!decide (c < (M.tn : Int))) = decide ((M.tn : Int) ≤ c) by rw [← decide_not]; exact decide_eq_decide.2 (by omega)]
    cases inB M.c 0 999999999 <;> cases decide ((M.tn : Int) ≤ c) <;> cases ((M.pn : Int) == a) <;> cases allB (fun i => timerB a b c (M.t i)) M.tn <;> cases allB (procX a b c M) M.pn <;> cases allB (agreeX M) M.pn <;> cases allB (placeOkB M) M.tn <;> rfl

set_option maxRecDepth 100000 in
set_option maxHeartbeats 4000000 in
theorem memRight_any {mb : Nat} {a b c : Int} {M : Me} {w : World} (hs : sizeM M ≤ 1048576) (h : SeenAt w mb a b c M) :
    Calls Try.prog 70 #[ptrV mb] w fun e w' => e = .returned (.bool (memOkB a b c M)) ∧ Below w.heap.size w w' := by
  rw [memOk_split]
  have HS := Lib.hid h
  cases hz : sizesX a b c M
  · have HZ := Lib.hid hz
    clear h hz
    go_enter Try.func70, Try.ntmps70
    go_wp2_with (first
      | (go_at_call 102; refine (sizesRight_any hs HS.out).mono ?_; rintro x w1 ⟨rfl, hb⟩; rw [HZ.out]))
    go_ret
    exact ⟨rfl, hb⟩
  have HZ := Lib.hid hz
  cases hp : (allB (fun i => timerB a b c (M.t i)) M.tn && allB (procX a b c M) M.pn)
  · have HP := Lib.hid hp
    clear h hz hp
    go_enter Try.func70, Try.ntmps70
    go_wp2_with (first
      | (go_at_call 102; refine (sizesRight_any hs HS.out).mono ?_; rintro x w1 ⟨rfl, hb⟩; rw [HZ.out])
      | (go_at_call 103; refine (partsRight_any hs (HS.out.below hb)).mono ?_; rintro x w2 ⟨rfl, hb2⟩; rw [HP.out]))
    go_ret
    exact ⟨rfl, hb.trans (hb2.mono hb.size)⟩
  · have HP := Lib.hid hp
    have hpl : ∀ i, i < M.tn → (M.t i).pl = -1 ∨ 0 ≤ (M.t i).pl ∧ (M.t i).pl < (M.pn : Int) := by
      rw [Bool.and_eq_true] at hp
      unfold sizesX at hz
      simp only [Bool.and_eq_true, beq_iff_eq] at hz
      intro i hi
      have := timerB_pl (allB_at hp.1 i hi)
      have he := hz.2.2.2
      omega
    have HPL := Lib.hid hpl
    clear h hz hp hpl
    go_enter Try.func70, Try.ntmps70
    go_wp2_with (first
      | (go_at_call 102; refine (sizesRight_any hs HS.out).mono ?_; rintro x w1 ⟨rfl, hb⟩; rw [HZ.out])
      | (go_at_call 103; refine (partsRight_any hs (HS.out.below hb)).mono ?_; rintro x w2 ⟨rfl, hb2⟩; rw [HP.out]; have k2 := hb.trans (hb2.mono hb.size))
      | (go_at_call 104; refine (agrees_any hs (HS.out.below k2) HPL.out).mono ?_; rintro x w3 ⟨rfl, hb3⟩))
    go_ret
    exact ⟨rfl, k2.trans (hb3.mono k2.size)⟩

set_option maxRecDepth 100000 in
set_option maxHeartbeats 2000000 in
theorem imMemOk_any : AsksMB 24 memOkB := by
  intro a b c tv pv M w hs h
  obtain ⟨va, vc, qa, qc, rfl, rfl⟩ := h.form
  have k0 := ((Below.refl w.heap.size w).alloc (Nat.le_refl _) (.cells #[.int .i64 a, .int .i64 b, .int .i64 c] 25)).alloc (by simp) (memO M.c (.slice va M.tn vc) (.slice qa M.pn qc) 54)
  have HM := Lib.hid (h.below k0)
  clear h
  go_enter Try.func24, Try.ntmps24
  go_wp2_with fail
  go_at_call 69; refine (seen_any a b c hs HM.out).mono ?_; rintro x w1 ⟨mb, rfl, hS, hb⟩
  have k1 := k0.trans (hb.mono k0.size)
  go_wp2_with fail
  go_at_call 70; refine (memRight_any hs hS).mono ?_; rintro x w2 ⟨rfl, hb2⟩
  go_wp2
  go_ret
  exact ⟨rfl, k1.trans (hb2.mono k1.size)⟩

end Go.Proofs.Ytnmaljieaflnmaa

/-
  Append onto a list of processors of the call's own.
-/
namespace Go.Proofs.Ytnmaljieaflnmaa
open Go.RowKit Go.Joins
set_option linter.unusedVariables false

/-- a processor's four cells -/
def pcAt (P : Pcs) (V : Nat → Value) (i : Nat) : Nat → Value
  | 0 => V i
  | 1 => .int .i64 (P i).l
  | 2 => .int .i64 (P i).e
  | _ => .int .i64 (P i).d
theorem below4 {P : Nat → Prop} (h0 : P 0) (h1 : P 1) (h2 : P 2) (h3 : P 3) : ∀ j, j < 4 → P j
  | 0, _ => h0
  | 1, _ => h1
  | 2, _ => h2
  | 3, _ => h3
  | _ + 4, h => by omega
def cellsP (P : Pcs) (V : Nat → Value) : Nat → List Value
  | 0 => []
  | n + 1 => cellsP P V n ++ [V n, .int .i64 (P n).l, .int .i64 (P n).e, .int .i64 (P n).d]
theorem cellsP_length (P : Pcs) (V : Nat → Value) : ∀ n, (cellsP P V n).length = n * 4
  | 0 => rfl
  | n + 1 => by rw [cellsP, List.length_append, cellsP_length P V n]; simp; omega
theorem cellsP_get (P : Pcs) (V : Nat → Value) : ∀ n i, i < n → ∀ j, j < 4 → (cellsP P V n)[i * 4 + j]? = some (pcAt P V i j)
  | 0, i, h => absurd h (Nat.not_lt_zero _)
  | n + 1, i, h => by
    intro j hj
    rw [cellsP]
    by_cases e : i = n
    · subst e
      rw [List.getElem?_append_right (by rw [cellsP_length]; omega), cellsP_length, Nat.add_sub_cancel_left]
      revert j
      apply below4 <;> rfl
    · rw [List.getElem?_append_left (by rw [cellsP_length]; omega)]
      exact cellsP_get P V n i (by omega) j hj
theorem cellsP_congr {P Q : Pcs} {V U : Nat → Value} : ∀ n, (∀ i, i < n → P i = Q i) → (∀ i, i < n → V i = U i) → cellsP P V n = cellsP Q U n
  | 0, _, _ => rfl
  | n + 1, h, hv => by rw [cellsP, cellsP, cellsP_congr n (fun i hi => h i (by omega)) (fun i hi => hv i (by omega)), h n (by omega), hv n (by omega)]
theorem cellsP_push (P : Pcs) (V : Nat → Value) (n : Nat) (p : Pc) (u : Value) : cellsP P V n ++ [u, .int .i64 p.l, .int .i64 p.e, .int .i64 p.d] = cellsP (putP P n p) (putV V n u) (n + 1) := by
  rw [cellsP, putP_same, putV_same, cellsP_congr (P := P) (Q := putP P n p) (V := V) (U := putV V n u) n (fun i hi => (putP_other P (i := n) (k := i) p (by omega)).symm) (fun i hi => (putV_other V (i := i) (k := n) u (by omega)).symm)]
theorem proc_info2 : (Try.prog.info? 28).map (fun i => (i.zero, i.size, i.bytes)) = some (some (.agg #[.slice none 0 0, .int .i64 0, .int .i64 0, .int .i64 0]), 4, 48) := by kernel_rfl

/-- the list itself, no word of the slots -/
def ListRow (w : World) (B : Nat) (v : Value) (m : Nat) (P : Pcs) (V : Nat → Value) : Prop :=
  (m = 0 ∧ v = .slice none 0 0) ∨ ∃ g cap, v = .slice (some ⟨g, 0, none⟩) m cap ∧ ListAt w B g m cap P V
theorem listP_of_row {w : World} {B n : Nat} {v : Value} {P : Pcs} {V : Nat → Value} (h : w.ownsRow B 28 4 v n (cellsP P V n)) : ListRow w B v n P V := by
  rcases h.2 with ⟨rfl, rfl⟩ | ⟨g, cap, cur, rfl, hB, hg, hn, hcm, hs, ht⟩
  · exact .inl ⟨rfl, rfl⟩
  · refine .inr ⟨g, cap, rfl, hB, hn, hcm, cur, hg, hs, fun i hi => ?_⟩
    have key : ∀ j, j < 4 → cur[i * 4 + j]? = some (pcAt P V i j) := by
      intro j hj
      have h1 := cellsP_get P V n i hi j hj
      rw [← ht, List.getElem?_take_of_lt (by omega)] at h1
      simpa using h1
    exact ⟨key 0 (by omega), key 1 (by omega), key 2 (by omega), key 3 (by omega)⟩
theorem rowP_of_list {w : World} {B n : Nat} {v : Value} {P : Pcs} {V : Nat → Value} (h : ListRow w B v n P V) : w.ownsRow B 28 4 v n (cellsP P V n) := by
  rcases h with ⟨rfl, rfl⟩ | ⟨g, cap, rfl, h1, h2, h3, cur, hh, hs, hr⟩
  · exact World.ownsRow_nil w B _ _
  refine ⟨cellsP_length P V n, .inr ⟨g, cap, cur, rfl, h1, hh, h2, h3, hs, ?_⟩⟩
  apply List.ext_getElem?
  intro k
  by_cases hk : k < n * 4
  · rw [List.getElem?_take_of_lt hk]
    have a := cellsP_get P V n (k / 4) (by omega) (k % 4) (by omega)
    have b : cur[k / 4 * 4 + k % 4]? = some (pcAt P V (k / 4) (k % 4)) := by
      obtain ⟨b0, b1, b2, b3⟩ := hr (k / 4) (by omega)
      exact below4 (P := fun j => cur[k / 4 * 4 + j]? = some (pcAt P V (k / 4) j)) b0 b1 b2 b3 (k % 4) (by omega)
    rw [show k / 4 * 4 + k % 4 = k by omega] at a b
    rw [a]; simpa using b
  · rw [List.getElem?_eq_none (by rw [List.length_take]; omega), List.getElem?_eq_none (by rw [cellsP_length]; omega)]
theorem ListRow.below {w w' : World} {B m : Nat} {v : Value} {P : Pcs} {V : Nat → Value} (h : ListRow w B v m P V) (hb : Below w.heap.size w w') : ListRow w' B v m P V := by
  rcases h with h | ⟨g, cap, e, h⟩
  · exact .inl h
  · exact .inr ⟨g, cap, e, h.below hb⟩
theorem ListRow.form {w : World} {B m : Nat} {v : Value} {P : Pcs} {V : Nat → Value} (h : ListRow w B v m P V) : ∃ a cap, v = .slice a m cap := by
  rcases h with ⟨rfl, rfl⟩ | ⟨g, cap, rfl, _⟩
  · exact ⟨_, _, rfl⟩
  · exact ⟨_, _, rfl⟩
theorem ListRow.own {w : World} {B m : Nat} {v : Value} {P : Pcs} {V : Nat → Value} (h : ListRow w B v m P V) (hh : HeapsAt w B m P V) : OwnPRow w B v m P := by
  rcases h with h | ⟨g, cap, e, h⟩
  · exact .inl h
  · exact .inr ⟨g, cap, V, e, h, hh⟩

theorem ListRow.block_ge {w : World} {B m : Nat} {v : Value} {P : Pcs} {V : Nat → Value} (h : ListRow w B v m P V) : ∀ x, v.ownBlock = some x → B ≤ x := by
  intro x hx
  rcases h with ⟨_, rfl⟩ | ⟨g, cap, rfl, h⟩
  · simp [Value.ownBlock] at hx
  · simp [Value.ownBlock] at hx
    subst hx
    exact h.1
theorem ListRow.block_lt {w : World} {B m : Nat} {v : Value} {P : Pcs} {V : Nat → Value} (h : ListRow w B v m P V) : ∀ x, v.ownBlock = some x → x < w.heap.size := by
  intro x hx
  rcases h with ⟨_, rfl⟩ | ⟨g, cap, rfl, h⟩
  · simp [Value.ownBlock] at hx
  · simp [Value.ownBlock] at hx
    subst hx
    exact h.lt
/-- the slots' blocks are none of the list's: they stay when the list grows -/
theorem HeapsAt.grown {w w' : World} {B B' m n : Nat} {v : Value} {P Q : Pcs} {V U : Nat → Value} (h : HeapsAt w B m P V) (hl : ListRow w B' v n Q U) (hg : w.grownBy w' v.ownBlock) : HeapsAt w' B m P V := by
  refine h.other fun i hi x hx => hg.block x ((h.1 i hi).lt_size x hx) ?_
  intro e
  rcases hl with ⟨_, rfl⟩ | ⟨g, cap, rfl, hl⟩
  · simp [Value.ownBlock] at e
  · simp [Value.ownBlock] at e
    exact hl.ne_heap (h.1 i hi) x hx e
theorem OwnRow.keptO {w w' : World} {B B' m n : Nat} {v u : Value} {f : Slots} {Q : Pcs} {U : Nat → Value} (h : OwnRow w B u n f) (hg : w.grownBy w' v.ownBlock) (hl : ListRow w B' v m Q U) : OwnRow w' B u n f := by
  rcases h with h | ⟨g, cap, rfl, h⟩
  · exact .inl h
  · refine .inr ⟨g, cap, rfl, h.block (hg.block g h.lt ?_)⟩
    intro e
    rcases hl with ⟨_, rfl⟩ | ⟨g', cap', rfl, hl⟩
    · simp [Value.ownBlock] at e
    · simp [Value.ownBlock] at e
      exact hl.ne_heap (OwnAt.own h) g rfl e
/-- one more, whose slots' list is its own -/
theorem HeapsAt.add {w : World} {B k : Nat} {P : Pcs} {V : Nat → Value} {u : Value} {p : Pc} (h : HeapsAt w B k P V) (ho : OwnRow w B u p.n p.f) (hd : ∀ i, i < k → ∀ x, (V i).ownBlock = some x → u.ownBlock ≠ some x) :
    HeapsAt w B (k + 1) (putP P k p) (putV V k u) := by
  refine ⟨fun i hi => ?_, fun i j hi hj hij x hx => ?_⟩
  · by_cases e : i = k
    · subst e; rw [putP_same, putV_same]; exact ho
    · rw [putP_other P p e, putV_other V u e]; exact h.1 i (by omega)
  · by_cases e : i = k
    · subst e
      rw [putV_same] at hx
      rw [putV_other V u (Ne.symm hij)]
      intro h2
      exact hd j (by omega) x h2 hx
    · rw [putV_other V u e] at hx
      by_cases e2 : j = k
      · subst e2
        rw [putV_same]
        exact hd i (by omega) x hx
      · rw [putV_other V u e2]
        exact h.2 i j (by omega) (by omega) hij x hx

theorem ListRow.set {w : World} {B m b : Nat} {v : Value} {P : Pcs} {V : Nat → Value} (h : ListRow w B v m P V) (hb : b < B) (o : Nat) (u : Value) : ListRow (w.setCell ⟨b, o, none⟩ u) B v m P V := by
  rcases h with h | ⟨g, cap, e, h⟩
  · exact .inl h
  · exact .inr ⟨g, cap, e, h.block (Below.heap_setCell w ⟨b, o, none⟩ u g (show g ≠ b by have := h.1; omega))⟩
theorem HeapsAt.block_ge {w : World} {B m : Nat} {P : Pcs} {V : Nat → Value} (h : HeapsAt w B m P V) {i : Nat} (hi : i < m) : ∀ x, (V i).ownBlock = some x → B ≤ x := by
  intro x hx
  rcases h.1 i hi with ⟨_, ev⟩ | ⟨g, c, ev, ho⟩
  · rw [ev] at hx; simp [Value.ownBlock] at hx
  · rw [ev] at hx; simp [Value.ownBlock] at hx; subst hx; exact ho.1
theorem HeapsAt.set {w : World} {B m b : Nat} {P : Pcs} {V : Nat → Value} (h : HeapsAt w B m P V) (hb : b < B) (o : Nat) (u : Value) : HeapsAt (w.setCell ⟨b, o, none⟩ u) B m P V :=
  h.other fun i hi x hx => Below.heap_setCell w ⟨b, o, none⟩ u x (show x ≠ b by have := h.block_ge hi x hx; omega)
theorem ListRow.congr {w : World} {B m : Nat} {v : Value} {P Q : Pcs} {V U : Nat → Value} (h : ListRow w B v m P V) (e : ∀ i, i < m → P i = Q i) (ev : ∀ i, i < m → V i = U i) : ListRow w B v m Q U := by
  rcases h with h | ⟨g, cap, e1, h⟩
  · exact .inl h
  · exact .inr ⟨g, cap, e1, h.congr e ev⟩
theorem b_grownO {a w : World} {B : Nat} {ob : Option Nat} (h : a.grownBy w ob) (hx : ∀ x, ob = some x → B ≤ x) (hs : B ≤ a.heap.size) : Below B a w :=
  ⟨h.os, h.tape, h.output, h.size, fun i hi => h.block i (by omega) (fun e => by have := hx i e.symm; omega)⟩

theorem run_append_proc (w : World) (B : Nat) (ty : TypeId) (v : Value) (n : Nat) (P : Pcs) (V : Nat → Value) (hown : w.ownsRow B 28 4 v n (cellsP P V n)) (b : Nat) (p : Pc) (u : Value) (hu : u.oneCell' = true)
    (hc : w.heap[b]? = some (.cells #[u, .int .i64 p.l, .int .i64 p.e, .int .i64 p.d] 28 (0, 0))) (hn : n + 1 ≤ 2097152) (hB : B ≤ w.heap.size) :
    ∃ v' w', (Builtin.append_ #[52, 52] ty #[v, .slice (some ⟨b, 0, none⟩) 1 1]).run Try.prog w = .ok v' w' ∧ w'.ownsRow B 28 4 v' (n + 1) (cellsP (putP P n p) (putV V n u) (n + 1)) ∧ w.grownBy w' v.ownBlock ∧ (v'.ownBlock = v.ownBlock ∨ v'.ownBlock = some w.heap.size) := by
  obtain ⟨i0, hi, hz, hs, hby⟩ := info_parts proc_info2
  have hbytes : (n + 1) * 48 ≤ 140737488355328 := by omega
  have h63 : n + 1 ≤ maxLen := by unfold maxLen; omega
  obtain ⟨v', w', hrun, h2, h3, _, h5⟩ := run_append_own_at (P := Try.prog) w B 52 ty 28 i0 _ 4 48 Try.underlying52 hi hz hs hby rfl (by decide) v n _ hown ⟨b, 0, none⟩ 1 1 [u, .int .i64 p.l, .int .i64 p.e, .int .i64 p.d] rfl
    (fun j x hx => by
      rw [Go.WideShapes.add_plain, Nat.zero_add]
      rw [cell_of_block hc j]
      simpa using hx) (by
      intro x hx
      simp only [List.mem_cons, List.mem_nil_iff, or_false] at hx
      rcases hx with rfl | rfl | rfl | rfl
      · exact hu
      all_goals rfl) h63 hbytes hB
  exact ⟨v', w', hrun, by rw [← cellsP_push]; exact h2, h3, h5⟩

theorem wp_append_proc {o : Oper} {a : Act} {K : Act → World → Prop} {Q : Exit → Act → World → Prop} {w : World} (s x : Operand)
    (ho : o.op = .call { callee := .builtin .append, args := #[s, x], argTypes := #[52, 52] })
    (B : Nat) (v : Value) (n : Nat) (P : Pcs) (V : Nat → Value) (hs : a.eval s = v) (hown : w.ownsRow B 28 4 v n (cellsP P V n)) (b : Nat) (p : Pc) (u : Value) (hu : u.oneCell' = true) (hx : a.eval x = .slice (some ⟨b, 0, none⟩) 1 1)
    (hc : w.heap[b]? = some (.cells #[u, .int .i64 p.l, .int .i64 p.e, .int .i64 p.d] 28 (0, 0))) (hn : n + 1 ≤ 2097152) (hB : B ≤ w.heap.size)
    (hK : ∀ v' w', w'.ownsRow B 28 4 v' (n + 1) (cellsP (putP P n p) (putV V n u) (n + 1)) → w.grownBy w' v.ownBlock → (v'.ownBlock = v.ownBlock ∨ v'.ownBlock = some w.heap.size) → K (a.put o.dst v') w') : o.wp Try.prog a w K Q := by
  obtain ⟨v', w', hr, h2, h3, h4⟩ := run_append_proc w B o.type v n P V hown b p u hu hc hn hB
  unfold Oper.wp execOp
  simp only [ho, resolve, invoke, builtin, Sem.run_bind, Sem.run_pure, Result.andThen_ok, List.map_toArray, List.map_cons, List.map_nil, hs, hx, hr]
  exact hK v' w' h2 h3 h4
theorem wpList_append_proc {ops : Array Oper} {rest : List Oper} {o : Oper} {a : Act} {Q : Exit → Act → World → Prop} {w : World} (hgd : o.guard = none) (s x : Operand)
    (ho : o.op = .call { callee := .builtin .append, args := #[s, x], argTypes := #[52, 52] })
    (B : Nat) (v : Value) (n : Nat) (P : Pcs) (V : Nat → Value) (hs : a.eval s = v) (hown : w.ownsRow B 28 4 v n (cellsP P V n)) (b : Nat) (p : Pc) (u : Value) (hu : u.oneCell' = true) (hx : a.eval x = .slice (some ⟨b, 0, none⟩) 1 1)
    (hc : w.heap[b]? = some (.cells #[u, .int .i64 p.l, .int .i64 p.e, .int .i64 p.d] 28 (0, 0))) (hn : n + 1 ≤ 2097152) (hB : B ≤ w.heap.size)
    (hK : ∀ v' w', w'.ownsRow B 28 4 v' (n + 1) (cellsP (putP P n p) (putV V n u) (n + 1)) → w.grownBy w' v.ownBlock → (v'.ownBlock = v.ownBlock ∨ v'.ownBlock = some w.heap.size) → wpList Try.prog ops Q rest (a.put o.dst v') w') : wpList Try.prog ops Q (o :: rest) a w :=
  wpList_plain hgd fun _ hK' => wp_append_proc s x ho B v n P V hs hown b p u hu hx hc hn hB fun v' w' h2 h3 h4 => hK' _ _ (hK v' w' h2 h3 h4)
theorem step_append_proc {ops : Array Oper} {o : Oper} {a : Act} {K : Act → World → Prop} {Q : Exit → Act → World → Prop} {E : Prop} {w : World} (hgd : o.guard = none) (s x : Operand)
    (ho : o.op = .call { callee := .builtin .append, args := #[s, x], argTypes := #[52, 52] })
    (B : Nat) (v : Value) (n : Nat) (P : Pcs) (V : Nat → Value) (hs : a.eval s = v) (hown : w.ownsRow B 28 4 v n (cellsP P V n)) (b : Nat) (p : Pc) (u : Value) (hu : u.oneCell' = true) (hx : a.eval x = .slice (some ⟨b, 0, none⟩) 1 1)
    (hc : w.heap[b]? = some (.cells #[u, .int .i64 p.l, .int .i64 p.e, .int .i64 p.d] 28 (0, 0))) (hn : n + 1 ≤ 2097152) (hB : B ≤ w.heap.size)
    (hK : ∀ v' w', w'.ownsRow B 28 4 v' (n + 1) (cellsP (putP P n p) (putV V n u) (n + 1)) → w.grownBy w' v.ownBlock → (v'.ownBlock = v.ownBlock ∨ v'.ownBlock = some w.heap.size) → K (a.put o.dst v') w') :
    if Region.wanted o (yielded ops a.tmps) = true then Oper.wp Try.prog o a w K Q else E := by
  have hw : Region.wanted o (yielded ops a.tmps) = true := by simp [Region.wanted, hgd]
  rw [if_pos hw]
  exact wp_append_proc s x ho B v n P V hs hown b p u hu hx hc hn hB hK

end Go.Proofs.Ytnmaljieaflnmaa

/-
  A new memory (spec, chapter 5).
-/
namespace Go.Proofs.Ytnmaljieaflnmaa
open Go.RowKit Go.Joins
set_option linter.unusedVariables false

/-- the zero memory -/
def me0 : Me := ⟨0, 0, fun _ => tm0, 0, fun _ => pc0⟩
/-- a new one -/
def newM (a b c : Int) : Me := if planB a b c then ⟨0, 0, fun _ => tm0, a.toNat, fun _ => ⟨0, fun _ => (0, 0), -1, -1, 0⟩⟩ else me0
theorem own_me0 (w : World) (B : Nat) : OwnMem w B (.slice none 0 0) (.slice none 0 0) me0 := ⟨.inl ⟨rfl, rfl⟩, .inl ⟨rfl, rfl⟩⟩

/-- a value that a variable of the call's own holds, and which is answered through the block of the answer -/
theorem OwnTRow.set3 {w : World} {B n b : Nat} {v : Value} {f : Tms} (h : OwnTRow w B v n f) (hb : b < B) (x y z : Value) :
    OwnTRow (((w.setCell ⟨b, 0, none⟩ x).setCell ⟨b, 1, none⟩ y).setCell ⟨b, 2, none⟩ z) B v n f := ((h.set hb 0 x).set hb 1 y).set hb 2 z
theorem set_same {w : World} {B b : Nat} (hb : b < B) (o : Nat) (x : Value) : ∀ g, B ≤ g → (w.setCell ⟨b, o, none⟩ x).heap[g]? = w.heap[g]? :=
  fun g hg => Below.heap_setCell w ⟨b, o, none⟩ x g (show g ≠ b by omega)
theorem OwnPRow.set3 {w : World} {B m b : Nat} {v : Value} {P : Pcs} (h : OwnPRow w B v m P) (hb : b < B) (x y z : Value) :
    OwnPRow (((w.setCell ⟨b, 0, none⟩ x).setCell ⟨b, 1, none⟩ y).setCell ⟨b, 2, none⟩ z) B v m P :=
  h.kept1 fun g hg _ => (set_same hb 2 z g hg).trans ((set_same hb 1 y g hg).trans (set_same hb 0 x g hg))
theorem OwnMem.set3 {w : World} {B b : Nat} {tv pv : Value} {M : Me} (h : OwnMem w B tv pv M) (hb : b < B) (x y z : Value) :
    OwnMem (((w.setCell ⟨b, 0, none⟩ x).setCell ⟨b, 1, none⟩ y).setCell ⟨b, 2, none⟩ z) B tv pv M := ⟨h.1.set3 hb x y z, h.2.set3 hb x y z⟩
theorem b_set3 {W w : World} {n g : Nat} (h : Below n W w) (hg : n ≤ g) (x y z : Value) : Below n W (((w.setCell ⟨g, 0, none⟩ x).setCell ⟨g, 1, none⟩ y).setCell ⟨g, 2, none⟩ z) :=
  ((h.setCell (p := ⟨g, 0, none⟩) hg x).setCell (p := ⟨g, 1, none⟩) hg y).setCell (p := ⟨g, 2, none⟩) hg z
/-- the new processors, as many as there are yet -/
def newP : Pcs := fun _ => ⟨0, fun _ => (0, 0), -1, -1, 0⟩

set_option maxRecDepth 100000 in
set_option maxHeartbeats 4000000 in
theorem spNewMem_any (a b c : Int) (w : World) :
    Calls Try.prog 26 #[.agg #[.int .i64 a, .int .i64 b, .int .i64 c]] w (NewMe (newM a b c) w) := by
  have k0 := (Below.refl w.heap.size w).alloc (Nat.le_refl _) (.cells #[.int .i64 a, .int .i64 b, .int .i64 c] 25)
  have e0 : (w.alloc (.cells #[.int .i64 a, .int .i64 b, .int .i64 c] 25)).heap.size = w.heap.size + 1 := by simp
  have kz := k0.alloc k0.size (memO 0 (.slice none 0 0) (.slice none 0 0) 54)
  have hP := alloc_block (memO 0 (.slice none 0 0) (.slice none 0 0) 54) (heap_alloc_new w (.cells #[.int .i64 a, .int .i64 b, .int .i64 c] 25))
  have hR := heap_alloc_new (w.alloc (.cells #[.int .i64 a, .int .i64 b, .int .i64 c] 25)) (memO 0 (.slice none 0 0) (.slice none 0 0) 54)
  rw [e0] at hR
  cases h1 : planB a b c
  · rw [show newM a b c = me0 by rw [newM, h1]; rfl]
    go_enter Try.func26, Try.ntmps26
    go_wp2_with fail
    go_at_call 52; refine (spPlanOk_any _ _ _ _).mono ?_; rintro x w1 ⟨rfl, hb⟩; rw [h1]
    have k1 := kz.trans (hb.mono kz.size)
    have hR1 := b_block hb hR (lt_of_block hR)
    obtain ⟨r0, r1, r2, rf0, rf1, rf2⟩ := three hR1
    clear hb hP hR k0 kz e0
    go_wp2
    exact bodyPost_ret (v := meV 0 (.slice none 0 0) (.slice none 0 0)) (by simp [results, Try.results26, go_sem, r0, r1, r2]) rfl ⟨_, _, rfl, own_me0 _ _, b_set3 k1 (Nat.le_succ _) _ _ _⟩
  · obtain ⟨n, hn⟩ : ∃ n : Nat, a = n := ⟨a.toNat, by have := planB_iff.1 h1; omega⟩
    subst hn
    have hbd := planB_iff.1 h1
    have hnew := Lib.hid (show newM n b c = ⟨0, 0, fun _ => tm0, n, newP⟩ by rw [newM, h1]; rfl)
    go_enter Try.func26, Try.ntmps26
    go_wp2_with fail
    go_at_call 52; refine (spPlanOk_any _ _ _ _).mono ?_; rintro x w1 ⟨rfl, hb⟩; rw [h1]
    have k1 := kz.trans (hb.mono kz.size)
    have hR1 := b_block hb hR (lt_of_block hR)
    have hP1 := b_block hb hP (lt_of_block hP)
    have lR1 := lt_of_block hR1
    have k2 := k1.alloc k1.size (memO 0 (.slice none 0 0) (.slice none 0 0) 54)
    have hR2 := alloc_block (memO 0 (.slice none 0 0) (.slice none 0 0) 54) hR1
    have hP2 := alloc_block (memO 0 (.slice none 0 0) (.slice none 0 0) 54) hP1
    have hX2 := heap_alloc_new w1 (memO 0 (.slice none 0 0) (.slice none 0 0) 54)
    have lX2 := lt_of_block hX2
    clear hb hP hR k0 kz e0 hR1 hP1
    go_wp2_with fail
    generalize hXn : w1.heap.size = X at hX2 lX2 lR1 ⊢
    generalize w1.alloc (memO 0 (.slice none 0 0) (.slice none 0 0) 54) = w2 at k2 hR2 hP2 hX2 lX2 ⊢
    clear hXn k1
    go_loopw [4] (fun i wr => ∃ (k : Nat) (pv : Value) (V : Nat → Value), k ≤ n ∧ i = .int .i64 k ∧ wr.heap[X]? = some (memO 0 (.slice none 0 0) pv 54) ∧ wr.heap[w.heap.size + 1]? = some (memO 0 (.slice none 0 0) (.slice none 0 0) 54) ∧ wr.heap[w.heap.size]? = some (.cells #[.int .i64 n, .int .i64 b, .int .i64 c] 25 (0, 0)) ∧ ListRow wr (X + 1) pv k newP V ∧ HeapsAt wr (X + 1) k newP V ∧ Below w.heap.size w wr) (fun i _ => n - (intOf i).toNat)
    case atStart => exact ⟨0, _, _, Nat.zero_le _, rfl, hX2, hR2, hP2, .inl ⟨rfl, rfl⟩, HeapsAt.zero _ _ _ (fun _ => .slice none 0 0), k2⟩
    case round =>
      obtain ⟨k, pv, V, hk, rfl, hX, hR, hP, hL, hH, kw⟩ := hrel
      obtain ⟨x0, x1, x2, xf0, xf1, xf2⟩ := three hX
      obtain ⟨p0, p1, p2, _, _, _⟩ := three hP
      obtain ⟨pa, pc, hpv⟩ := hL.form
      by_cases hlt : k < n
      · have i1 : (k : Int) < (n : Int) := by omega
        have ho := Lib.hid ((rowP_of_list hL).alloc (.cells #[.slice none 0 0, .int .i64 (-1), .int .i64 (-1), .int .i64 0] 28))
        have hS := Lib.hid (heap_alloc_new wr (.cells #[.slice none 0 0, .int .i64 (-1), .int .i64 (-1), .int .i64 0] 28))
        have lX := lt_of_block hX
        have hXa := alloc_block (.cells #[.slice none 0 0, .int .i64 (-1), .int .i64 (-1), .int .i64 0] 28) hX
        have hRa := alloc_block (.cells #[.slice none 0 0, .int .i64 (-1), .int .i64 (-1), .int .i64 0] 28) hR
        have hPa := alloc_block (.cells #[.slice none 0 0, .int .i64 (-1), .int .i64 (-1), .int .i64 0] 28) hP
        have hHa := hH.below ((Below.refl wr.heap.size wr).alloc (Nat.le_refl _) (.cells #[.slice none 0 0, .int .i64 (-1), .int .i64 (-1), .int .i64 0] 28))
        have ka := kw.alloc kw.size (.cells #[.slice none 0 0, .int .i64 (-1), .int .i64 (-1), .int .i64 0] 28)
        have hBa : X + 1 ≤ (wr.alloc (.cells #[.slice none 0 0, .int .i64 (-1), .int .i64 (-1), .int .i64 0] 28)).heap.size := by simp; omega
        have hob := hL.block_ge
        have hL0a := hL.below ((Below.refl wr.heap.size wr).alloc (Nat.le_refl _) (.cells #[.slice none 0 0, .int .i64 (-1), .int .i64 (-1), .int .i64 0] 28))
        subst hpv
        go_wp2_with (first
          | (at_builtin
             refine wpList_append_proc rfl (.tmp 17) (.tmp 19) rfl (X + 1) _ k newP V rfl ho.out _ ⟨0, fun _ => (0, 0), -1, -1, 0⟩ (.slice none 0 0) rfl rfl hS.out (by omega) hBa ?_
             intro v' w' hown hg hat
             have hX' : w'.heap[X]? = _ := (hg.block X (lt_of_block hXa) (fun e => by have := hob X e.symm; omega)).trans hXa
             have hR' : w'.heap[w.heap.size + 1]? = _ := (hg.block (w.heap.size + 1) (lt_of_block hRa) (fun e => by have := hob _ e.symm; omega)).trans hRa
             have hP' : w'.heap[w.heap.size]? = _ := (hg.block w.heap.size (lt_of_block hPa) (fun e => by have := hob _ e.symm; omega)).trans hPa
             have hL' := listP_of_row hown
             obtain ⟨qa, qc, hqv⟩ := hL'.form
             obtain ⟨y0, y1, y2, yf0, yf1, yf2⟩ := three hX'
             subst hqv
             have kw' := ka.trans (b_grownO hg (fun x hx => Nat.le_trans (show w.heap.size ≤ X + 1 by omega) (hob x hx)) ka.size)
             have hn' : ∀ i, i < k + 1 → putP newP k ⟨0, fun _ => (0, 0), -1, -1, 0⟩ i = newP i := fun i _ => by unfold putP; split <;> rfl
             have hH' := ((hHa.grown hL0a hg).add (p := ⟨0, fun _ => (0, 0), -1, -1, 0⟩) (u := .slice none 0 0) (.inl ⟨rfl, rfl⟩) (fun i hi x hx => by simp [Value.ownBlock])).congr (Q := newP) (U := putV V k (.slice none 0 0)) hn' (fun _ _ => rfl)
             have hL2 := hL'.congr hn' (fun _ _ => rfl)))
        exact ⟨⟨k + 1, _, _, by omega, by go_num, block_setCell (i := 2) hX' _, (Below.heap_setCell w' ⟨X, 2, none⟩ _ _ (show w.heap.size + 1 ≠ X by omega)).trans hR', (Below.heap_setCell w' ⟨X, 2, none⟩ _ _ (show w.heap.size ≠ X by omega)).trans hP', hL2.set (by omega) 2 _, hH'.set (by omega) 2 _, kw'.setCell (p := ⟨X, 2, none⟩) (show w.heap.size ≤ X by omega) _⟩, by simp only [intOf]; omega⟩
      · have hkn : k = n := by omega
        subst hkn
        subst hpv
        have i1 : ¬ (k : Int) < (k : Int) := by omega
        obtain ⟨r0, r1, r2, rf0, rf1, rf2⟩ := three hR
        have hOf : OwnPRow wr (X + 1) (.slice pa k pc) k newP := hL.own hH
        go_wp2
        rw [hnew.out]
        exact bodyPost_ret (v := meV 0 (.slice none 0 0) (.slice pa k pc)) (by simp [results, Try.results26, go_sem, r0, r1, r2]) rfl ⟨_, _, rfl, ⟨.inl ⟨rfl, rfl⟩, (hOf.set3 (by omega) _ _ _).mono (by omega)⟩, b_set3 kw (Nat.le_succ _) _ _ _⟩

end Go.Proofs.Ytnmaljieaflnmaa
