/-
  Tidying up (spec, chapter 6), at the face: Rearmed.
-/
import Derived.Test.YtonpbmeekgdilaaGreatL21
import Derived.Test.YtonpbmeekgdilaaGreatL12
import Derived.Test.YtonpbmeekgdilaaGreatL19
import Derived.Test.YtonpbmeekgdilaaGreatL15
import Derived.RangeFuncNested
import Derived.RangeFuncBound
import Derived.RangeFuncCalls
import Derived.RangeFuncLeaves
import Derived.Shelf.Abstract
import Derived.Shelf.RegionOpen
import Derived.OwnWalkIn
import Derived.TacticsInMore
import Derived.LoopNIn
import Derived.LoopIn
import Derived.Test.YtonpbmeekgdilaaGreatL00
import Derived.StillTailTactics
import Derived.TacticsIn
import Derived.OrdersIn
namespace Go.Proofs.YtonpbmeekgdilaaGreat
open Go.RowKit Go.Joins
set_option linter.unusedVariables false

set_option maxRecDepth 100000 in
set_option maxHeartbeats 4000000 in
theorem sp_rearmed_zero1 (a b c d : Int) {tv pv : Value} {M : Me} {w : World} (hs : sizeM M ≤ 1048576) (h : MemAt w tv pv M) (ho : memOkB a b c M = false) :
    Calls Tryz.prog 16 #[.agg #[.int .i64 a, .int .i64 b, .int .i64 c], meV M.c tv pv, .int .i64 d] w (NewMeB me0 (false) w) := by
  obtain ⟨va, vc, qa, qc, rfl, rfl⟩ := h.form
  have htn := (sizeM_le hs).1
  have k0 := (Below.refl w.heap.size w).alloc (Nat.le_refl _) (.cells #[.int .i64 a, .int .i64 b, .int .i64 c] 35)
  have e0 : (w.alloc (.cells #[.int .i64 a, .int .i64 b, .int .i64 c] 35)).heap.size = w.heap.size + 1 := by simp
  have k1 := k0.alloc k0.size (memO M.c (.slice va M.tn vc) (.slice qa M.pn qc) 32)
  have e1 : ((w.alloc (.cells #[.int .i64 a, .int .i64 b, .int .i64 c] 35)).alloc (memO M.c (.slice va M.tn vc) (.slice qa M.pn qc) 32)).heap.size = w.heap.size + 1 + 1 := by simp
  have k2 := k1.alloc k1.size (memO 0 (.slice none 0 0) (.slice none 0 0) 32)
  have hA := alloc_block (memO 0 (.slice none 0 0) (.slice none 0 0) 32) (heap_alloc_new (w.alloc (.cells #[.int .i64 a, .int .i64 b, .int .i64 c] 35)) (memO M.c (.slice va M.tn vc) (.slice qa M.pn qc) 32))
  rw [e0] at hA
  have hR := heap_alloc_new ((w.alloc (.cells #[.int .i64 a, .int .i64 b, .int .i64 c] 35)).alloc (memO M.c (.slice va M.tn vc) (.slice qa M.pn qc) 32)) (memO 0 (.slice none 0 0) (.slice none 0 0) 32)
  rw [e1] at hR
  have hP := alloc_block (memO 0 (.slice none 0 0) (.slice none 0 0) 32) (alloc_block (memO M.c (.slice va M.tn vc) (.slice qa M.pn qc) 32) (heap_alloc_new w (.cells #[.int .i64 a, .int .i64 b, .int .i64 c] 35)))
  have hM := h.below k2
  clear h
  have Ho := Lib.hid ho
  clear ho
  obtain ⟨a0, a1, a2, _, _, _⟩ := three hA
  obtain ⟨p0, p1, p2, _, _, _⟩ := three hP
  go_enter Tryz.func16, Tryz.ntmps16
  go_wp2_with fail
  go_at_call 20; refine (spMemOk_any _ _ _ hs hM).mono ?_; rintro x w1 ⟨rfl, hb⟩; rw [Ho.out]
  clear a0 a1 a2 p0 p1 p2
  replace hR := b_block hb hR (lt_of_block hR)
  replace hP := b_block hb hP (lt_of_block hP)
  replace hA := b_block hb hA (lt_of_block hA)
  replace hM := hM.below hb
  have k3 := k2.trans (hb.mono k2.size)
  have s3 := hb.size
  rw [show (((w.alloc (.cells #[.int .i64 a, .int .i64 b, .int .i64 c] 35)).alloc (memO M.c (.slice va M.tn vc) (.slice qa M.pn qc) 32)).alloc (memO 0 (.slice none 0 0) (.slice none 0 0) 32)).heap.size = w.heap.size + 1 + 1 + 1 by simp] at s3
  clear hb
  obtain ⟨r0, r1, r2, rf0, rf1, rf2⟩ := three hR
  go_wp2
  exact bodyPost_ret (v := .tuple #[meV 0 (.slice none 0 0) (.slice none 0 0), .bool false]) (by simp [results, Tryz.results16, go_sem, r0, r1, r2]) rfl ⟨_, _, rfl, own_me0 _ _, b_set3 k3 (by omega) _ _ _⟩

set_option maxRecDepth 100000 in
set_option maxHeartbeats 4000000 in
theorem sp_rearmed_zero2 (a b c d : Int) {tv pv : Value} {M : Me} {w : World} (hs : sizeM M ≤ 1048576) (h : MemAt w tv pv M) (ho : memOkB a b c M = true) (h0 : hasT M d = false) :
    Calls Tryz.prog 16 #[.agg #[.int .i64 a, .int .i64 b, .int .i64 c], meV M.c tv pv, .int .i64 d] w (NewMeB me0 (false) w) := by
  obtain ⟨va, vc, qa, qc, rfl, rfl⟩ := h.form
  have htn := (sizeM_le hs).1
  have k0 := (Below.refl w.heap.size w).alloc (Nat.le_refl _) (.cells #[.int .i64 a, .int .i64 b, .int .i64 c] 35)
  have e0 : (w.alloc (.cells #[.int .i64 a, .int .i64 b, .int .i64 c] 35)).heap.size = w.heap.size + 1 := by simp
  have k1 := k0.alloc k0.size (memO M.c (.slice va M.tn vc) (.slice qa M.pn qc) 32)
  have e1 : ((w.alloc (.cells #[.int .i64 a, .int .i64 b, .int .i64 c] 35)).alloc (memO M.c (.slice va M.tn vc) (.slice qa M.pn qc) 32)).heap.size = w.heap.size + 1 + 1 := by simp
  have k2 := k1.alloc k1.size (memO 0 (.slice none 0 0) (.slice none 0 0) 32)
  have hA := alloc_block (memO 0 (.slice none 0 0) (.slice none 0 0) 32) (heap_alloc_new (w.alloc (.cells #[.int .i64 a, .int .i64 b, .int .i64 c] 35)) (memO M.c (.slice va M.tn vc) (.slice qa M.pn qc) 32))
  rw [e0] at hA
  have hR := heap_alloc_new ((w.alloc (.cells #[.int .i64 a, .int .i64 b, .int .i64 c] 35)).alloc (memO M.c (.slice va M.tn vc) (.slice qa M.pn qc) 32)) (memO 0 (.slice none 0 0) (.slice none 0 0) 32)
  rw [e1] at hR
  have hP := alloc_block (memO 0 (.slice none 0 0) (.slice none 0 0) 32) (alloc_block (memO M.c (.slice va M.tn vc) (.slice qa M.pn qc) 32) (heap_alloc_new w (.cells #[.int .i64 a, .int .i64 b, .int .i64 c] 35)))
  have hM := h.below k2
  clear h
  have Ho := Lib.hid ho
  have H0 := Lib.hid h0
  clear ho h0
  obtain ⟨a0, a1, a2, _, _, _⟩ := three hA
  obtain ⟨p0, p1, p2, _, _, _⟩ := three hP
  go_enter Tryz.func16, Tryz.ntmps16
  go_wp2_with fail
  go_at_call 20; refine (spMemOk_any _ _ _ hs hM).mono ?_; rintro x w1 ⟨rfl, hb⟩; rw [Ho.out]
  clear a0 a1 a2 p0 p1 p2
  replace hR := b_block hb hR (lt_of_block hR)
  replace hP := b_block hb hP (lt_of_block hP)
  replace hA := b_block hb hA (lt_of_block hA)
  replace hM := hM.below hb
  have k3 := k2.trans (hb.mono k2.size)
  have s3 := hb.size
  rw [show (((w.alloc (.cells #[.int .i64 a, .int .i64 b, .int .i64 c] 35)).alloc (memO M.c (.slice va M.tn vc) (.slice qa M.pn qc) 32)).alloc (memO 0 (.slice none 0 0) (.slice none 0 0) 32)).heap.size = w.heap.size + 1 + 1 + 1 by simp] at s3
  clear hb
  obtain ⟨a0, a1, a2, _, _, _⟩ := three hA
  obtain ⟨p0, p1, p2, _, _, _⟩ := three hP
  go_wp2_with fail
  go_at_call 21; refine (l5Has_any ⟨_, _, rfl⟩ htn _ _).mono ?_; rintro x w2 ⟨rfl, hb⟩; rw [H0.out]
  clear a0 a1 a2 p0 p1 p2
  replace hR := b_block hb hR (lt_of_block hR)
  replace hP := b_block hb hP (lt_of_block hP)
  replace hA := b_block hb hA (lt_of_block hA)
  replace hM := hM.below hb
  have k4 := k3.trans (hb.mono k3.size)
  have s4 := hb.size
  clear hb
  obtain ⟨r0, r1, r2, rf0, rf1, rf2⟩ := three hR
  go_wp2
  exact bodyPost_ret (v := .tuple #[meV 0 (.slice none 0 0) (.slice none 0 0), .bool false]) (by simp [results, Tryz.results16, go_sem, r0, r1, r2]) rfl ⟨_, _, rfl, own_me0 _ _, b_set3 k4 (by omega) _ _ _⟩

set_option maxRecDepth 100000 in
set_option maxHeartbeats 8000000 in
theorem sp_rearmed_yes (a b c d : Int) {tv pv : Value} {M N : Me} {q : Bool} {w : World} (hs : sizeM M ≤ 1048576) (h : MemAt w tv pv M) (ho : memOkB a b c M = true) (h0 : hasT M d = true)
    (HW : RowKit.Hid (∀ (W : World) (B : Nat) (tv pv : Value), B ≤ W.heap.size → OwnMem W B tv pv M → Calls Tryz.prog 40 #[meV M.c tv pv, .int .i64 d] W (InMeB B N q W))) :
    Calls Tryz.prog 16 #[.agg #[.int .i64 a, .int .i64 b, .int .i64 c], meV M.c tv pv, .int .i64 d] w (NewMeB N q w) := by
  obtain ⟨va, vc, qa, qc, rfl, rfl⟩ := h.form
  have htn := (sizeM_le hs).1
  have k0 := (Below.refl w.heap.size w).alloc (Nat.le_refl _) (.cells #[.int .i64 a, .int .i64 b, .int .i64 c] 35)
  have e0 : (w.alloc (.cells #[.int .i64 a, .int .i64 b, .int .i64 c] 35)).heap.size = w.heap.size + 1 := by simp
  have k1 := k0.alloc k0.size (memO M.c (.slice va M.tn vc) (.slice qa M.pn qc) 32)
  have e1 : ((w.alloc (.cells #[.int .i64 a, .int .i64 b, .int .i64 c] 35)).alloc (memO M.c (.slice va M.tn vc) (.slice qa M.pn qc) 32)).heap.size = w.heap.size + 1 + 1 := by simp
  have k2 := k1.alloc k1.size (memO 0 (.slice none 0 0) (.slice none 0 0) 32)
  have hA := alloc_block (memO 0 (.slice none 0 0) (.slice none 0 0) 32) (heap_alloc_new (w.alloc (.cells #[.int .i64 a, .int .i64 b, .int .i64 c] 35)) (memO M.c (.slice va M.tn vc) (.slice qa M.pn qc) 32))
  rw [e0] at hA
  have hR := heap_alloc_new ((w.alloc (.cells #[.int .i64 a, .int .i64 b, .int .i64 c] 35)).alloc (memO M.c (.slice va M.tn vc) (.slice qa M.pn qc) 32)) (memO 0 (.slice none 0 0) (.slice none 0 0) 32)
  rw [e1] at hR
  have hP := alloc_block (memO 0 (.slice none 0 0) (.slice none 0 0) 32) (alloc_block (memO M.c (.slice va M.tn vc) (.slice qa M.pn qc) 32) (heap_alloc_new w (.cells #[.int .i64 a, .int .i64 b, .int .i64 c] 35)))
  have hM := h.below k2
  clear h
  have Ho := Lib.hid ho
  have H0 := Lib.hid h0
  clear ho h0
  obtain ⟨a0, a1, a2, _, _, _⟩ := three hA
  obtain ⟨p0, p1, p2, _, _, _⟩ := three hP
  go_enter Tryz.func16, Tryz.ntmps16
  go_wp2_with fail
  go_at_call 20; refine (spMemOk_any _ _ _ hs hM).mono ?_; rintro x w1 ⟨rfl, hb⟩; rw [Ho.out]
  clear a0 a1 a2 p0 p1 p2
  replace hR := b_block hb hR (lt_of_block hR)
  replace hP := b_block hb hP (lt_of_block hP)
  replace hA := b_block hb hA (lt_of_block hA)
  replace hM := hM.below hb
  have k3 := k2.trans (hb.mono k2.size)
  have s3 := hb.size
  rw [show (((w.alloc (.cells #[.int .i64 a, .int .i64 b, .int .i64 c] 35)).alloc (memO M.c (.slice va M.tn vc) (.slice qa M.pn qc) 32)).alloc (memO 0 (.slice none 0 0) (.slice none 0 0) 32)).heap.size = w.heap.size + 1 + 1 + 1 by simp] at s3
  clear hb
  obtain ⟨a0, a1, a2, _, _, _⟩ := three hA
  obtain ⟨p0, p1, p2, _, _, _⟩ := three hP
  go_wp2_with fail
  go_at_call 21; refine (l5Has_any ⟨_, _, rfl⟩ htn _ _).mono ?_; rintro x w2 ⟨rfl, hb⟩; rw [H0.out]
  clear a0 a1 a2 p0 p1 p2
  replace hR := b_block hb hR (lt_of_block hR)
  replace hP := b_block hb hP (lt_of_block hP)
  replace hA := b_block hb hA (lt_of_block hA)
  replace hM := hM.below hb
  have k4 := k3.trans (hb.mono k3.size)
  have s4 := hb.size
  clear hb
  obtain ⟨a0, a1, a2, _, _, _⟩ := three hA
  go_wp2_with fail
  go_at_call 24; refine (l5Copy_any hs hM).mono ?_; rintro x w3 ⟨t2, p2, rfl, hO, hb⟩
  clear a0 a1 a2 hA hP hM
  replace hR := b_block hb hR (lt_of_block hR)
  have k5 := k4.trans (hb.mono k4.size)
  have s5 := hb.size
  go_wp2_with fail
  go_at_call 40; refine (HW.out _ _ _ _ hb.size hO).mono ?_; rintro x w4 ⟨t3, p3, rfl, hO3, kx⟩
  clear hO hb
  replace hR := (kx.below.block (w.heap.size + 1 + 1) (by omega)).trans hR
  have k6 := k5.trans (kx.below.mono (by omega))
  clear kx
  obtain ⟨ta, tc, pa, pc, ht, hp⟩ := hO3.at.form
  subst ht hp
  obtain ⟨r0, r1, r2, rf0, rf1, rf2⟩ := three hR
  go_wp2
  exact bodyPost_ret (v := .tuple #[meV N.c (.slice ta N.tn tc) (.slice pa N.pn pc), .bool q]) (by simp [results, Tryz.results16, go_sem, r0, r1, r2]) rfl ⟨_, _, rfl, (hO3.set3 (by omega) _ _ _).mono (by omega), b_set3 k6 (by omega) _ _ _⟩

theorem spRearmed_any : AsksRearmed 16 := by
  intro a b c d tv pv M w hs h
  cases hall : timerOkM a b c d M
  · have e0 : rearmedG a b c d M = me0 := by rw [rearmedG, hall]; rfl
    have e1 : rearmedQ a b c d M = false := by rw [rearmedQ, hall]; rfl
    rw [e0, e1]
    cases hok : memOkB a b c M
    · exact sp_rearmed_zero1 a b c d hs h hok
    · cases h0 : hasT M d
      · exact sp_rearmed_zero2 a b c d hs h hok h0
      · exfalso; rw [timerOkM, hok, h0] at hall; simp at hall
  · have e0 : rearmedG a b c d M = rearmedM M d.toNat := by rw [rearmedG, if_pos hall]
    have e1 : rearmedQ a b c d M = rearmedB M d.toNat := by rw [rearmedQ, hall]; rfl
    rw [e0, e1]
    obtain ⟨hf, t, ed, et, ht⟩ := timerOk_of hall
    subst ed
    have hall2 := hall
    simp only [timerOkM, Bool.and_eq_true] at hall2
    obtain ⟨hok, h0⟩ := hall2
    exact sp_rearmed_yes a b c (t : Int) hs h hok h0 (Lib.hid (fun W B tv pv hB hO => l6Rearmed_any hB hf ht hO))

end Go.Proofs.YtonpbmeekgdilaaGreat

/-
  Tidying up, in the program (chapter 6): the timers of a heap, one after the other (an iterator).
-/
namespace Go.Proofs.YtonpbmeekgdilaaGreat
open Go.RowKit Go.Joins Go.Shelf
set_option linter.unusedVariables false

attribute [local go_sem] Oper.semAt_some

theorem grown_drew (W : World) : W.grownBy W.drew none := ⟨rfl, rfl, rfl, Nat.le_refl _, fun _ _ _ => rfl⟩
/-- the first k of n places -/
def Firsts (n k : Nat) (pre : List (Fin n)) : Prop := pre.map (·.val) = List.range k
theorem Firsts.snoc {n k : Nat} {pre : List (Fin n)} (h : Firsts n k pre) (hk : k < n) : Firsts n (k + 1) (pre ++ [⟨k, hk⟩]) := by
  unfold Firsts at h ⊢
  rw [List.map_append, h, List.range_succ]
  rfl
theorem Firsts.length {n k : Nat} {pre : List (Fin n)} (h : Firsts n k pre) : pre.length = k := by
  have := congrArg List.length h
  simpa using this

/-- what the iterator reads, each time anew -/
structure SlotsAt (W : World) (n₀ b1 b2 mb g k pn : Nat) (ra : Option Addr) (n rc : Nat) (f : Slots) : Prop where
  c1 : W.cell? ⟨b1, 0, none⟩ = some (ptrV mb)
  c2 : W.cell? ⟨b2, 0, none⟩ = some (.int .i64 (k : Int))
  m5 : W.cell? ⟨mb, 5, none⟩ = some (.slice (some ⟨g, 0, none⟩) pn pn)
  p1 : W.cell? ⟨g, k * 4 + 1, none⟩ = some (.slice ra n rc)
  row : n = 0 ∨ ∃ rb off, ra = some ⟨rb, off, none⟩ ∧ rb < n₀ ∧ ∀ i, i < n → W.cell? ⟨rb, off + i * 2, none⟩ = some (.int .i64 (f i).1) ∧ W.cell? ⟨rb, off + i * 2 + 1, none⟩ = some (.int .i64 (f i).2)

set_option maxRecDepth 100000 in
set_option maxHeartbeats 4000000 in
/-- the closure's text, for every loop body that keeps what lay below n₀ -/
theorem timersIn1_in (F : Fence) (m : Nat) (h7 : F.fn 86) (hro : F.round = none) (hm : 1 ≤ m) (l b1 b2 n₀ mb g k pn : Nat) (ra : Option Addr) (n rc : Nat) (f : Slots) (hk : k < pn) (hn : n ≤ 1048576) (J Jx : List (Fin n) → World → Prop)
    (hY : ∀ pre (x : Fin n) W, J pre W → pre.length < n → YieldAt F (m - 1) Tryz.prog l #[.int .i64 (f x.val).1] W fun e W' =>
      (e = .returned (.bool true) ∧ J (pre ++ [x]) W' ∧ Below n₀ W W') ∨ (e = .returned (.bool false) ∧ Jx (pre ++ [x]) W'))
    (W : World) (hn₀ : n₀ ≤ W.heap.size) (hJ : AbidesFrom W.heap.size J) (hs : SlotsAt W n₀ b1 b2 mb g k pn ra n rc f) (h0 : J [] W) :
    CallsIn F m Tryz.prog 86 #[.func (.yield l) #[] #[], .pointer (some ⟨b1, 0, none⟩), .pointer (some ⟨b2, 0, none⟩)] W fun e W' => (∃ v, e = .returned v) ∧
      ((∃ ys, Firsts n n ys ∧ J ys W') ∨ (∃ pre, (∃ k, k ≤ n ∧ Firsts n k pre) ∧ Jx pre W')) := by
  have hmx : Tryz.prog.follows .mixedOrders = true := by kernel_rfl
  have i0 : (0 : Int) ≤ (k : Int) := by omega
  have i1 : (k : Int) < (pn : Int) := by omega
  obtain ⟨c1, c2, m5, p1, hrow⟩ := hs
  have hJd : J [] W.drew := hJ _ _ _ none h0 (grown_drew W) (fun r e => by cases e)
  refine callsIn_of_wp Tryz.func86 rfl h7 ?_ hro
  simp only [Tryz.ntmps86, List.size_toArray, List.length_cons, List.length_nil, Nat.reduceAdd, Nat.reduceSub, Array.replicate_succ, Array.replicate_zero, List.push_toArray, List.append_toArray, List.nil_append, List.cons_append]
  gi_wp2
  gi_region_o
  all_goals refine ?same
  case same =>
    gi_wp2
    gi_loopw [15] (fun i wr => ∃ (j : Nat) (pre : List (Fin n)), j ≤ n ∧ i = .int .i64 j ∧ Firsts n j pre ∧ J pre wr ∧ Below n₀ W wr)
      (fun i _ => n - (intOf i).toNat)
    case atStart => exact ⟨0, [], Nat.zero_le _, rfl, rfl, hJd, (Below.refl n₀ W).drew⟩
    case round =>
      obtain ⟨j, pre, hj, rfl, hpre, hJs, hnx⟩ := hrel
      by_cases hlt : j < n
      · have i2 : (j : Int) < (n : Int) := by omega
        have i3 : (0 : Int) ≤ (j : Int) := by omega
        rcases hrow with h00 | ⟨rb, off, rfl, hb, hc⟩
        · omega
        have d0 : wr.cell? ⟨rb, off + j * 2, none⟩ = some (.int .i64 (f j).1) := (hnx.cell (p := ⟨rb, off + j * 2, none⟩) hb).trans (hc j hlt).1
        have d1 : wr.cell? ⟨rb, off + j * 2 + 1, none⟩ = some (.int .i64 (f j).2) := (hnx.cell (p := ⟨rb, off + j * 2 + 1, none⟩) hb).trans (hc j hlt).2
        have hJ2 : J pre (wr.alloc (.cells #[.int .i64 (f j).1, .int .i64 (f j).2] 88)) := hJ _ _ _ none hJs (World.grownBy_alloc _ _ none) (fun r e => by cases e)
        have hb2 : Below n₀ W (wr.alloc (.cells #[.int .i64 (f j).1, .int .i64 (f j).2] 88)) := hnx.alloc (Nat.le_trans hn₀ hnx.size) _
        obtain ⟨fn, tmps, assign, body, hy, hR⟩ := hY pre ⟨j, hlt⟩ _ hJ2 (by rw [hpre.length]; exact hlt)
        dsimp only at hy
        clear hc hJs
        gi_wp2
        refine hR.mono ?_
        rintro e W3 (⟨rfl, hJ3, hk3⟩ | ⟨rfl, hJx3⟩)
        · gi_wp2
          go_roundw
          case rel => exact ⟨j + 1, _, by omega, by simp, hpre.snoc hlt, hJ3, hb2.trans hk3⟩
          case measure => simp [intOf]; omega
        · gi_wp2
          refine bodyPost_ret (results_none rfl _ _ _) rfl ?_
          exact ⟨⟨_, rfl⟩, .inr ⟨_, ⟨j + 1, by omega, hpre.snoc hlt⟩, hJx3⟩⟩
      · obtain rfl : j = n := by omega
        have i2 : ¬ (j : Int) < (j : Int) := by omega
        gi_wp2
        go_end0
        exact ⟨⟨_, rfl⟩, .inl ⟨_, hpre, hJs⟩⟩

end Go.Proofs.YtonpbmeekgdilaaGreat

/-
  A region that draws its order, inside a round of a range over a function: reads in any order, then what waits for them all (one walk in the order of the text).
-/
namespace Go.Proofs.YtonpbmeekgdilaaGreat
open Go.RowKit Go.Joins
set_option linter.unusedVariables false

def noDefer (o : Oper) : Bool := match o.op with
  | .defer _ => false
  | _ => true
theorem semAt_of_noDefer {o : Oper} (h : noDefer o = true) (ro : Option Nat) (ρ : Operand → Value) : Oper.semAt ro ρ o = execOp ρ o :=
  Oper.semAt_eq ro ρ o (fun c e => by unfold noDefer at h; rw [e] at h; cases h)

theorem wpIn_of_stillR {P : Program} {m r : Nat} {w : World} {o : Oper} {a : Act} {K : Act → Prop} {K' : Act → World → Prop} {Q' : Exit → Act → World → Prop} (hd : noDefer o = true) (h : ∀ a, K a → K' a w) (hh : o.still P a w K) :
    o.wpIn (Fence.wide.inRound r) m P a w K' Q' := by
  unfold Oper.still at hh
  refine ⟨fun _ _ => trivial, ?_⟩
  rw [semAt_of_noDefer hd]
  generalize (execOp a.eval o).run P w = res at *
  cases res with
  | ok n w' =>
    cases n <;> simp only [Oper.stillUpon] at hh <;> simp only [Oper.uponIn]
    case value u => obtain ⟨e1, e2⟩ := hh; subst e1; exact h _ e2
    case skip => obtain ⟨e1, e2⟩ := hh; subst e1; exact h _ e2
    case enter f args =>
      obtain ⟨e1, v, hc, hn⟩ := hh
      subst e1
      exact ⟨fun e => by simp [Fence.inRound, Fence.wide] at e, (CallsIn.inRound r (callsIn_wide.2 hc)).mono fun e w'' ⟨he, hw⟩ => by subst he; subst hw; exact h _ hn⟩
  | halt x w' => simp only [Oper.stillUpon] at hh

theorem wpOpIn_of_stR {P : Program} {m r : Nat} {w : World} {ops : Array Oper} (hd : ∀ (i : Nat) (o : Oper), ops[i]? = some o → noDefer o = true) {i : Nat} {a : Act} {K : Act → Prop} {K' : Act → World → Prop} {Q' : Exit → Act → World → Prop} (h : ∀ a, K a → K' a w) (hh : stOp P ops w i K a) :
    wpOpIn (Fence.wide.inRound r) m P ops Q' i K' a w := by
  unfold stOp at hh
  unfold wpOpIn
  split
  · rename_i ho; simp only [ho] at hh; exact h _ hh
  · rename_i o ho
    simp only [ho] at hh
    split
    · rename_i hw; simp only [hw, if_true] at hh; exact wpIn_of_stillR (hd i o ho) h hh
    · rename_i hw; simp only [hw] at hh; exact ⟨fun _ _ => trivial, h _ hh⟩

theorem anyIn_of_head {P : Program} {m r : Nat} {md : Region.Mode} {w : World} {ops : Array Oper} (hd : ∀ (i : Nat) (o : Oper), ops[i]? = some o → noDefer o = true) {n g : Nat} {L : Array Bool → Act → Prop} {Q' : Exit → Act → World → Prop} (hL : ∀ listed a, L listed a → wpAnyIn (Fence.wide.inRound r) m P md ops Q' g listed a w) :
    ∀ (f : Nat) (listed : Array Bool) (a : Act), wpAnyL P md ops w n L f listed a → wpAnyIn (Fence.wide.inRound r) m P md ops Q' (f + g) listed a w
  | 0, listed, a, h => by rw [Nat.zero_add]; exact hL _ _ h
  | f + 1, listed, a, h => by
    rw [show f + 1 + g = (f + g) + 1 by omega]
    exact ⟨fun h0 => absurd h0 h.1, fun i hi => wpOpIn_of_stR hd (fun a' h' => anyIn_of_head hd hL f _ a' h') (h.2 i hi).2⟩

theorem anyIn_of_seq {F : Fence} {P : Program} {m : Nat} {md : Region.Mode} {ops : Array Oper} {Q' : Exit → Act → World → Prop} : ∀ (l : List Oper) (k : Nat) (listed : Array Bool) (a : Act) (w : World), (∀ j, l[j]? = ops[k + j]?) →
    Region.seqB md ops l.length k listed = true → wpListIn F m P ops Q' l a w → wpAnyIn F m P md ops Q' l.length listed a w
  | [], _, _, _, _, _, hB, h => ⟨by simpa [Region.seqB] using hB, h⟩
  | o :: l, k, listed, a, w, hl, hB, h => by
    have h0 : ops[k]? = some o := by simpa using (hl 0).symm
    simp only [List.length_cons, Region.seqB, Bool.and_eq_true, decide_eq_true_eq] at hB
    refine ⟨fun h1 => (by rw [hB.1] at h1; cases h1), fun i hi => ?_⟩
    rw [hB.1] at hi
    have hik : i = k := by simpa using hi
    subst hik
    have hw : wpOpIn F m P ops Q' i (wpListIn F m P ops Q' l) a w := by unfold wpOpIn; simp only [h0]; exact h
    exact wpOpIn_mono (fun a' w' h' => anyIn_of_seq l (i + 1) _ a' w' (fun j => by have := hl (j + 1); simpa [Nat.add_assoc, Nat.add_comm 1 j] using this) hB.2 h') hw

theorem region_still_round {P : Program} {m r : Nat} {id : Nat} {Q : Exit → Act → World → Prop} {a : Act} {w : World} {l : List Oper} (n : Nat) (hm : P.follows .mixedOrders = true) (hB : Region.lexTailB .any l.toArray n = true) (hd : l.all noDefer = true)
    (h : wpStill P l.toArray w.drew (fun a' => wpListIn (Fence.wide.inRound r) m P l.toArray Q (l.drop n) a' w.drew) (l.take n) a) : (Code.region id l.toArray true).wpIn (Fence.wide.inRound r) m P Q a w := by
  simp only [Region.lexTailB, Bool.and_eq_true, decide_eq_true_eq] at hB
  obtain ⟨⟨⟨⟨hsel, hn⟩, hs⟩, hc⟩, hlex⟩ := hB
  have hn' : n < l.length := by simpa using hn
  have htl : (l.take n).length = n := by simp; omega
  have hdl : (l.drop n).length = l.toArray.size - n := by simp
  have hnd : ∀ i o, l.toArray[i]? = some o → noDefer o = true := fun i o ho => List.all_eq_true.1 hd o (by rw [List.getElem?_toArray] at ho; exact List.mem_of_getElem? ho)
  have inv0 : HeadInv .any l.toArray n (Array.replicate l.toArray.size false) :=
    ⟨by simp, fun j oj _ hl => (by rw [getD_replicate_false] at hl; cases hl), fun t _ ht => getD_in (by simpa using ht) (getD_replicate_false _ _)⟩
  have H := wpAnyL_lex (md := .any) (g := l.toArray.size - n) hsel hs hc hn (l.take n) 0 _ a (fun j hj => by
    have hj' : j < n := by rw [htl] at hj; exact hj
    simp [hj']) (by simpa using htl) inv0 (by rw [htl]; exact hlex) h
  refine wpIn_region_any hm ?_
  have := anyIn_of_head (r := r) (m := m) hnd (Q' := Q) (g := l.toArray.size - n) (fun listed a' hL => by
    have := anyIn_of_seq (F := Fence.wide.inRound r) (m := m) (md := .any) (Q' := Q) (l.drop n) n listed a' w.drew (fun j => by simp [List.getElem?_drop]) (by rw [hdl]; exact hL.1) hL.2
    rwa [hdl] at this) _ _ _ H
  rw [htl, show n + (l.toArray.size - n) = l.toArray.size by omega] at this
  exact this

end Go.Proofs.YtonpbmeekgdilaaGreat

/-
  Tidying up, in the program (chapter 6): the first slot that is to be tidied.
-/
namespace Go.Proofs.YtonpbmeekgdilaaGreat
open Go.RowKit Go.Joins Go.Shelf
set_option linter.unusedVariables false

attribute [local go_sem] Oper.semAt_some

theorem lt_of_cell {W : World} {b o : Nat} {v : Value} (h : W.cell? ⟨b, o, none⟩ = some v) : b < W.heap.size := by
  obtain ⟨x, hx, _⟩ := cells_of_cell h
  exact (Array.getElem?_eq_some_iff.1 hx).1
theorem SlotsAt.below {W W' : World} {n₀ b1 b2 mb g k pn : Nat} {ra : Option Addr} {n rc : Nat} {f : Slots} (h : SlotsAt W n₀ b1 b2 mb g k pn ra n rc f) (hb : Below W.heap.size W W') : SlotsAt W' n₀ b1 b2 mb g k pn ra n rc f := by
  obtain ⟨c1, c2, m5, p1, hr⟩ := h
  refine ⟨(hb.cell (p := ⟨b1, 0, none⟩) (lt_of_cell c1)).trans c1, (hb.cell (p := ⟨b2, 0, none⟩) (lt_of_cell c2)).trans c2, (hb.cell (p := ⟨mb, 5, none⟩) (lt_of_cell m5)).trans m5, (hb.cell (p := ⟨g, k * 4 + 1, none⟩) (lt_of_cell p1)).trans p1, ?_⟩
  rcases hr with hr | ⟨rb, off, e, hl, hc⟩
  · exact .inl hr
  · exact .inr ⟨rb, off, e, hl, fun i hi => ⟨(hb.cell (p := ⟨rb, off + i * 2, none⟩) (lt_of_cell (hc i hi).1)).trans (hc i hi).1, (hb.cell (p := ⟨rb, off + i * 2 + 1, none⟩) (lt_of_cell (hc i hi).2)).trans (hc i hi).2⟩⟩
theorem timersIn_stops (F : Fence) (m : Nat) (h7 : F.fn 86) (hro : F.round = none) (hm : 1 ≤ m) (b1 b2 n₀ mb g k pn : Nat) (ra : Option Addr) (n rc : Nat) (f : Slots) (hk : k < pn) (hn : n ≤ 1048576) (w : World) (hn₀ : n₀ ≤ w.heap.size) (hs : SlotsAt w n₀ b1 b2 mb g k pn ra n rc f) :
    SeqStopsK F m Tryz.prog 86 #[.pointer (some ⟨b1, 0, none⟩), .pointer (some ⟨b2, 0, none⟩)] (fun x : Fin n => #[Value.int .i64 (f x.val).1]) (Below n₀) (fun ys => Firsts n n ys) (fun pre => ∃ k, k ≤ n ∧ Firsts n k pre) n w :=
  fun l J Jx W hW hJ _ hY h0 => timersIn1_in F m h7 hro hm l b1 b2 n₀ mb g k pn ra n rc f hk hn J Jx hY W (Nat.le_trans hn₀ hW.size) hJ (hs.below hW) h0

set_option maxHeartbeats 1000000 in
theorem timersIn_any (mb : Nat) (k : Int) (w : World) :
    Calls Tryz.prog 66 #[ptrV mb, .int .i64 k] w fun x w' => x = .returned (.func (.func 86) #[] #[.pointer (some ⟨w.heap.size, 0, none⟩), .pointer (some ⟨w.heap.size + 1, 0, none⟩)]) ∧ w' = (w.alloc (.cells #[ptrV mb] 52)).alloc (.cells #[.int .i64 k] 2) := by
  go_enter Tryz.func66, Tryz.ntmps66
  go_wp2
  go_ret
  exact ⟨rfl, rfl⟩

/-! ### what lies elsewhere -/
abbrev typesX : List TypeId := [85, 70, 92, 88]
theorem OpenX.away {w w' : World} {B mb g : Nat} {a b c : Int} {tv : Value} {V : Nat → Value} {M : Me} (h : OpenX w B mb a b c tv g V M) (e : ∀ (y : Nat) (cs : Array Value) (t : TypeId), w.heap[y]? = some (.cells cs t (0, 0)) → t ∈ typesX → w'.heap[y]? = w.heap[y]?) : OpenX w' B mb a b c tv g V M := by
  obtain ⟨cs, hcs⟩ := h.l.hh
  refine ⟨h.m0, (e mb _ _ h.m (by decide)).trans h.m, ?_, h.l.block (e g _ _ hcs (by decide)), h.h.other (fun i hi y hy => ?_)⟩
  · rcases h.t with h1 | ⟨x, cap, ev, h1⟩
    · exact .inl h1
    · obtain ⟨cx, hcx⟩ := h1.hh
      exact .inr ⟨x, cap, ev, h1.block (e x _ _ hcx (by decide))⟩
  · rcases h.h.1 i hi with ⟨_, ev⟩ | ⟨x, cap, ev, h1⟩
    · rw [ev] at hy; simp [Value.ownBlock] at hy
    · rw [ev] at hy
      simp [Value.ownBlock] at hy
      subst hy
      obtain ⟨_, _, _, cur, hh, _⟩ := h1
      exact e _ _ _ hh (by decide)
theorem keeps_cells {W W' : World} {row : Option Nat} (hg : W.grownBy W' row) (hr : ∀ r, row = some r → ∃ o : Obj, W.heap[r]? = some o ∧ o.isCells = false) (y : Nat) (cs : Array Value) (t : TypeId) (h : W.heap[y]? = some (.cells cs t (0, 0))) : W'.heap[y]? = W.heap[y]? := grownBy_keeps_cells hg hr h rfl
theorem Wx.step {B : Nat} {w W W' : World} {row : Option Nat} (h : Wx B w W) (hB : B ≤ w.heap.size) (hg : W.grownBy W' row) (hr : ∀ r, row = some r → w.heap.size ≤ r) : Wx B w W' := by
  have hne : ∀ x, x < w.heap.size → row ≠ some x := fun x hx e => by have := hr x e; omega
  refine ⟨h.below.grown hg (Nat.le_trans hB h.below.size) (fun r e => Nat.le_trans hB (hr r e)), fun x cs t hx ht => ?_, ⟨Nat.le_trans h.below.size hg.size, fun x o hx hc => ?_⟩⟩
  · have hl := lt_of_block hx
    exact (hg.block x (Nat.lt_of_lt_of_le hl h.below.size) (fun e => hne x hl e.symm)).trans (h.keeps x cs t hx ht)
  · have hl : x < w.heap.size := (Array.getElem?_eq_some_iff.1 hx).1
    exact (hg.block x (Nat.lt_of_lt_of_le hl h.below.size) (fun e => hne x hl e.symm)).trans (h.others.same x o hx hc)
theorem Wx.setNew {B : Nat} {a w : World} (h : Wx B a w) (hB : B ≤ a.heap.size) {x : Nat} (hx : a.heap.size ≤ x) (o : Nat) (u : Value) : Wx B a (w.setCell ⟨x, o, none⟩ u) :=
  ⟨h.below.setCell (p := ⟨x, o, none⟩) (Nat.le_trans hB hx) u, fun y cs t hy ht => (Below.heap_setCell w ⟨x, o, none⟩ u y (by have := lt_of_block hy; show y ≠ x; omega)).trans (h.keeps y cs t hy ht), h.others.trans (KeepsOthers.setCell _ _ _)⟩
theorem OpenX.flag {w : World} {B mb g x : Nat} {a b c : Int} {tv : Value} {V : Nat → Value} {M : Me} {cx : Array Value} (h : OpenX w B mb a b c tv g V M) (hx : w.heap[x]? = some (.cells cx 4 (0, 0))) (o : Nat) (u : Value) : OpenX (w.setCell ⟨x, o, none⟩ u) B mb a b c tv g V M :=
  h.away (fun y cs t hy ht => heap_set1 w x o u y (ne_ty hy hx (by rintro rfl; revert ht; decide)))

/-- what the program makes of the memory at a slot -/
def rawAtM (M : Me) (k i : Nat) : Me := if (M.t (slotT M k i)).st = 5 then setTm (takeM (setPc M k 3 ((M.p k).d - 1)) (slotT M k i) k) (slotT M k i) 0 7 else putM (takeM M (slotT M k i) k) (slotT M k i) k (M.t (slotT M k i)).nx
theorem raw_at {M : Me} {k i : Nat} (hids : ∀ j, j < (M.p k).n → ((M.p k).f j).1 = (slotT M k j : Int)) (hi : i < (M.p k).n) (hg : todoB (M.t (slotT M k i)) = true) (h : ∀ j, j < i → todoB (M.t (slotT M k j)) = false) : rawAtM M k i = tidyAtM M k i := by
  have hf := find_todo hids hi hg h i 0 (by omega)
  unfold rawAtM tidyAtM
  split
  · exact take_drop hf
  · exact take_move hf
theorem Firsts.last {n k : Nat} {ini : List (Fin n)} {x : Fin n} (h : Firsts n k (ini ++ [x])) : Firsts n x.val ini := by
  unfold Firsts at h ⊢
  rw [List.map_append] at h
  cases k with
  | zero => simp at h
  | succ k' =>
    rw [List.range_succ] at h
    obtain ⟨h1, h2⟩ := List.append_inj' h rfl
    have h3 : x.val = k' := by simpa using h2
    rw [h3]
    exact h1
theorem Firsts.all {n k : Nat} {pre : List (Fin n)} (h : Firsts n k pre) {P : Nat → Prop} (hp : ∀ x ∈ pre, P x.val) : ∀ j, j < k → P j := fun j hj => by
  have hm : j ∈ pre.map (·.val) := by rw [show pre.map (·.val) = List.range k from h]; exact List.mem_range.2 hj
  obtain ⟨y, hy, rfl⟩ := List.mem_map.1 hm
  exact hp y hy

def TidyI (w : World) (B mb : Nat) (a b c : Int) (tv : Value) (g : Nat) (V : Nat → Value) (M : Me) (k A R : Nat) (pre : List (Fin (M.p k).n)) (W : World) : Prop :=
  OpenX W B mb a b c tv g V M ∧ W.heap[A]? = some (.cells #[ptrV mb] 52 (0, 0)) ∧ W.heap[R]? = some (.cells #[.bool false] 4 (0, 0)) ∧ (∀ x ∈ pre, todoB (M.t (slotT M k x.val)) = false) ∧ Wx B w W
def TidyX (w : World) (B mb : Nat) (a b c : Int) (tv : Value) (g : Nat) (M : Me) (k R : Nat) (cd : Code) (pre : List (Fin (M.p k).n)) (W : World) : Prop :=
  cd = .ret ∧ ∃ ini last, pre = ini ++ [last] ∧ (∀ x ∈ ini, todoB (M.t (slotT M k x.val)) = false) ∧ todoB (M.t (slotT M k last.val)) = true ∧ (∃ V, OpenX W B mb a b c tv g V (rawAtM M k last.val)) ∧ W.heap[R]? = some (.cells #[.bool true] 4 (0, 0)) ∧ Wx B w W
theorem tidyI_own {w : World} {B mb : Nat} {a b c : Int} {tv : Value} {g : Nat} {V : Nat → Value} {M : Me} {k A R n₁ : Nat} (hB : B ≤ w.heap.size) (hn : w.heap.size ≤ n₁) : OwnFrom n₁ (TidyI w B mb a b c tv g V M k A R) := by
  rintro pre W W' row ⟨h1, h2, h3, h4, h5⟩ hg hr
  have hr2 := fun r e => (hr r e).2
  exact ⟨h1.away (fun y cs t hy _ => keeps_cells hg hr2 y cs t hy), (keeps_cells hg hr2 _ _ _ h2).trans h2, (keeps_cells hg hr2 _ _ _ h3).trans h3, h4, h5.step hB hg (fun r e => Nat.le_trans hn (hr r e).1)⟩
theorem tidyX_own {w : World} {B mb : Nat} {a b c : Int} {tv : Value} {g : Nat} {M : Me} {k R n₁ : Nat} (cd : Code) (hB : B ≤ w.heap.size) (hn : w.heap.size ≤ n₁) : OwnFrom n₁ (TidyX w B mb a b c tv g M k R cd) := by
  rintro pre W W' row ⟨e, ini, last, h1, h2, h3, ⟨V, h4⟩, h5, h6⟩ hg hr
  have hr2 := fun r e => (hr r e).2
  exact ⟨e, ini, last, h1, h2, h3, ⟨V, h4.away (fun y cs t hy _ => keeps_cells hg hr2 y cs t hy)⟩, (keeps_cells hg hr2 _ _ _ h5).trans h5, h6.step hB hg (fun r e => Nat.le_trans hn (hr r e).1)⟩

set_option maxRecDepth 100000 in
set_option maxHeartbeats 8000000 in
theorem tidy_any {B mb g k : Nat} {a b c : Int} {tv : Value} {V : Nat → Value} {M : Me} {w : World} (hB : B ≤ w.heap.size) (hf : MemFacts a b c M) (hk : k < M.pn) (h : OpenX w B mb a b c tv g V M) :
    Calls Tryz.prog 39 #[ptrV mb, .int .i64 (k : Int)] w fun x w' => x = .returned (.bool (tidiedB M k)) ∧ InX B mb a b c tv g (tidiedM M k) w w' := by
  have hmx : Tryz.prog.follows .mixedOrders = true := by kernel_rfl
  have i0 : (0 : Int) ≤ (k : Int) := by omega
  have i1 : (k : Int) < (M.pn : Int) := by omega
  refine (callsIn_wide (n := 8)).1 ?_
  refine callsIn_of_wp_marks Tryz.func39 rfl trivial ?_ rfl
  simp only [Tryz.ntmps39, List.size_toArray, List.length_cons, List.length_nil, Nat.reduceAdd, Nat.reduceSub, Array.replicate_succ, Array.replicate_zero, List.push_toArray, List.append_toArray, List.nil_append, List.cons_append]
  have hn := hf.n k hk
  have HSL := Lib.hid (fun (j : Nat) (hj : j < (M.p k).n) => hf.slot k hk j hj)
  have HF := Lib.hid hf
  have hdd := hf.d k hk
  clear hf
  have kb : Below w.heap.size w ((((w.alloc (.cells #[ptrV mb] 52)).alloc (.cells #[.bool false] 4)).alloc (.cells #[ptrV mb] 52)).alloc (.cells #[.int .i64 (k : Int)] 2)) := ((((Below.refl w.heap.size w).alloc (Nat.le_refl _) _).alloc (by simp) _).alloc (by simp; omega) _).alloc (by simp; omega) _
  have hX0 := h.below kb
  have hA0 : ((((w.alloc (.cells #[ptrV mb] 52)).alloc (.cells #[.bool false] 4)).alloc (.cells #[ptrV mb] 52)).alloc (.cells #[.int .i64 (k : Int)] 2)).heap[w.heap.size]? = some (.cells #[ptrV mb] 52 (0, 0)) := alloc_block _ (alloc_block _ (alloc_block _ (heap_alloc_new w _)))
  have hR0 : ((((w.alloc (.cells #[ptrV mb] 52)).alloc (.cells #[.bool false] 4)).alloc (.cells #[ptrV mb] 52)).alloc (.cells #[.int .i64 (k : Int)] 2)).heap[w.heap.size + 1]? = some (.cells #[.bool false] 4 (0, 0)) := alloc_block _ (alloc_block _ (by have := heap_alloc_new (w.alloc (.cells #[ptrV mb] 52)) (.cells #[.bool false] 4); rw [show (w.alloc (.cells #[ptrV mb] 52)).heap.size = w.heap.size + 1 by simp] at this; exact this))
  have hb1 : ((((w.alloc (.cells #[ptrV mb] 52)).alloc (.cells #[.bool false] 4)).alloc (.cells #[ptrV mb] 52)).alloc (.cells #[.int .i64 (k : Int)] 2)).heap[w.heap.size + 1 + 1]? = some (.cells #[ptrV mb] 52 (0, 0)) := alloc_block _ (by have := heap_alloc_new ((w.alloc (.cells #[ptrV mb] 52)).alloc (.cells #[.bool false] 4)) (.cells #[ptrV mb] 52); rw [show ((w.alloc (.cells #[ptrV mb] 52)).alloc (.cells #[.bool false] 4)).heap.size = w.heap.size + 1 + 1 by simp] at this; exact this)
  have hb2 : ((((w.alloc (.cells #[ptrV mb] 52)).alloc (.cells #[.bool false] 4)).alloc (.cells #[ptrV mb] 52)).alloc (.cells #[.int .i64 (k : Int)] 2)).heap[w.heap.size + 1 + 1 + 1]? = some (.cells #[.int .i64 (k : Int)] 2 (0, 0)) := by
    have := heap_alloc_new (((w.alloc (.cells #[ptrV mb] 52)).alloc (.cells #[.bool false] 4)).alloc (.cells #[ptrV mb] 52)) (.cells #[.int .i64 (k : Int)] 2)
    rw [show (((w.alloc (.cells #[ptrV mb] 52)).alloc (.cells #[.bool false] 4)).alloc (.cells #[ptrV mb] 52)).heap.size = w.heap.size + 1 + 1 + 1 by simp] at this
    exact this
  gi_wp2_with (refine ⟨trivial, ?_⟩; gi_at_call 66; refine (callsIn_wide.2 (timersIn_any _ _ _)).mono ?_; rintro e w' ⟨rfl, rfl⟩)
  generalize ((((w.alloc (.cells #[ptrV mb] 52)).alloc (.cells #[.bool false] 4)).alloc (.cells #[ptrV mb] 52)).alloc (.cells #[.int .i64 (k : Int)] 2)) = W0 at kb hX0 hA0 hR0 hb1 hb2 ⊢
  have kw : Wx B w W0 := .of_new kb hB
  have hw0 : w.heap.size ≤ W0.heap.size := kb.size
  have hB0 : B ≤ W0.heap.size := Nat.le_trans hB hw0
  obtain ⟨m0, m1, m2, m3, m4, m5⟩ := six hX0.m
  obtain ⟨⟨ra, rc, hrow, p1⟩, _, _, _⟩ := hX0.pcells hk
  have hS : SlotsAt W0 W0.heap.size (w.heap.size + 1 + 1) (w.heap.size + 1 + 1 + 1) mb g k M.pn ra (M.p k).n rc (M.p k).f := by
    refine ⟨cell_of_block hb1 0, cell_of_block hb2 0, m5, p1, ?_⟩
    rcases hrow with ⟨h0, _⟩ | ⟨rb, off, cap, e, hl, hc⟩
    · exact .inl h0
    · injection e with e1 e2 e3
      exact .inr ⟨rb, off, e1, hl, hc⟩
  clear m0 m1 m2 m3 m4 m5 p1 hrow hb1 hb2 h kb
  refine wpIn_rangeFunc_ownF rfl (by omega) (gf := 86) (lb := #[.pointer (some ⟨w.heap.size + 1 + 1, 0, none⟩), .pointer (some ⟨w.heap.size + 1 + 1 + 1, 0, none⟩)]) rfl trivial (enters_of Tryz.func86 (by kernel_rfl) rfl)
    (timersIn_stops Fence.wide _ trivial rfl (by omega) _ _ W0.heap.size mb g k M.pn ra (M.p k).n rc (M.p k).f hk (by omega) W0 (Nat.le_refl _) hS) belowK_t (belowK_b (Nat.le_refl _)) (Below.refl _ _) (fun _ => rfl)
    (TidyI w B mb a b c tv g V M k w.heap.size (w.heap.size + 1)) (TidyX w B mb a b c tv g M k (w.heap.size + 1)) (tidyI_own hB hw0) (fun cd => tidyX_own cd hB hw0)
    ⟨hX0, hA0, hR0, (fun x hx => by cases hx), kw⟩
    (fun x => { tmps := #[ptrV mb, .int .i64 (k : Int), .pointer (some ⟨w.heap.size, 0, none⟩), undef, .pointer (some ⟨w.heap.size + 1, 0, none⟩), .int .i64 ((M.p k).f x.val).1, ptrV mb, .int .i64 (k : Int), .func (.func 86) #[] #[.pointer (some ⟨w.heap.size + 1 + 1, 0, none⟩), .pointer (some ⟨w.heap.size + 1 + 1 + 1, 0, none⟩)], .int .i64 ((M.p k).f x.val).1, undef, undef, undef, undef, undef, undef, undef, undef, undef, undef, undef, undef, undef, undef, undef, undef, undef, undef, undef, undef, undef, undef, undef, undef, undef, undef, undef, undef, undef, undef, undef, undef, undef, undef], defers := [] }) ?assign ?body ?done ?stop
  case assign =>
    intro l x W K hK
    gi_wp2
    exact hK
  case body =>
    rintro l pre x W ⟨hO, hA, hR, hgood, hW⟩ _
    obtain ⟨e0, ht, epl, _⟩ := HSL.out x.val x.isLt
    obtain ⟨t, et⟩ : ∃ t, t = slotT M k x.val := ⟨_, rfl⟩
    rw [← et] at e0 ht epl
    obtain ⟨tg, tc, rfl⟩ := hO.tms ht
    have i2 : (0 : Int) ≤ (t : Int) := by omega
    have i3 : (t : Int) < (M.tn : Int) := by omega
    have hBW : B ≤ W.heap.size := Nat.le_trans hB hW.below.size
    obtain ⟨m0, m1, m2, m3, m4, m5⟩ := six hO.m
    obtain ⟨⟨t0, _, t2, _, _, _⟩, _⟩ := hO.tcells ht
    have a0 := cell_of_block hA 0
    have r0 := cell_of_block hR 0
    have rf := unfrozen_of_block hR 0
    have ET := Lib.hid et
    have lR := lt_of_block hR
    cases hg : todoB (M.t t)
    · have hg' : ¬ ((M.t t).st = 5 ∨ (M.t t).st = 3 ∨ (M.t t).st = 4) := fun e => by rw [show todoB (M.t t) = true by simp [todoB, e]] at hg; cases hg
      have g5 : ((M.t t).st == 5) = false := by simp; omega
      have g3 : ((M.t t).st == 3) = false := by simp; omega
      have g4 : ((M.t t).st == 4) = false := by simp; omega
      have hgd : ∀ y ∈ pre ++ [x], todoB (M.t (slotT M k y.val)) = false := fun y hy => by
        rcases List.mem_append.1 hy with h1 | h1
        · exact hgood y h1
        · simp at h1; subst h1; rw [← et]; exact hg
      have HG := Lib.hid hgd
      clear hg hg' hgd hgood et
      rw [e0]
      gi_wp2
      exact ⟨KeepsOthers.refl _, Below.refl _ _, hO, hA, hR, HG.out, hW⟩
    · rcases (show (M.t t).st = 5 ∨ (M.t t).st = 3 ∨ (M.t t).st = 4 by simpa [todoB] using hg) with h5 | h34
      · have hat : rawAtM M k x.val = setTm (takeM (setPc M k 3 ((M.p k).d - 1)) t k) t 0 7 := by rw [rawAtM, ← et, if_pos h5]
        rw [h5] at t0
        have HAT := Lib.hid hat
        have HG := Lib.hid hg
        have HGD := Lib.hid hgood
        clear hat hg et hgood h5
        rw [e0]
        gi_wp2_with (refine ⟨trivial, ?_⟩; gi_at_call 67; refine (CallsIn.inRound l (callsIn_wide.2 (remove_any hBW ht hk (by omega) epl hdd.1 (by omega) hO))).mono ?_; rintro e w2 ⟨rfl, V2, hO2, k2⟩; have hR2 := k2.kept hR (by decide); have r02 := cell_of_block hR2 0; have rf2 := unfrozen_of_block hR2 0)
        exact ⟨k2.others.trans (KeepsOthers.setCell _ _ _), rfl, pre, x, rfl, HGD.out, by rw [← ET.out]; exact HG.out, ⟨V2, by rw [HAT.out]; exact hO2.flag hR2 0 _⟩, block_setCell hR2 _, (hW.trans k2).setNew hB (Nat.le_succ _) 0 _⟩
      · have hat : rawAtM M k x.val = putM (takeM M t k) t k (M.t t).nx := by rw [rawAtM, ← et, if_neg (by omega)]
        have HAT := Lib.hid hat
        have HG := Lib.hid hg
        have HGD := Lib.hid hgood
        have HM := Lib.hid (fun (W' : World) (hW' : Below W.heap.size W W') => moveTo_any (Nat.le_trans hBW hW'.size) ht hk (by omega) epl (M.t t).nx (hO.below hW'))
        have g5 : ((M.t t).st == 5) = false := by simp; omega
        have hd := (Below.refl W.heap.size W).drew
        clear hat hg et hgood
        rw [e0]
        rcases h34 with h3 | h4
        all_goals
          first | rw [h3] at t0 g5 | rw [h4] at t0 g5
          first | clear h3 | clear h4
          gi_wp2
          refine region_still_round 10 hmx (by kernel_rfl) (by kernel_rfl) ?_
          simp only [List.take_succ_cons, List.take_zero, List.drop_succ_cons, List.drop_zero]
          repeat still_step
          refine wpStill_nil ?_
          gi_wp2_with (refine ⟨trivial, ?_⟩; gi_at_call 68; refine (CallsIn.inRound l (callsIn_wide.2 (HM.out _ hd))).mono ?_; rintro e w2 ⟨rfl, V2, hO2, k2⟩; have k3 := (Wx.of_new hd hBW).trans k2; have hR2 := k3.kept hR (by decide); have r02 := cell_of_block hR2 0; have rf2 := unfrozen_of_block hR2 0)
          exact ⟨k3.others.trans (KeepsOthers.setCell _ _ _), rfl, pre, x, rfl, HGD.out, by rw [← ET.out]; exact HG.out, ⟨V2, by rw [HAT.out]; exact hO2.flag hR2 0 _⟩, block_setCell hR2 _, (hW.trans k3).setNew hB (Nat.le_succ _) 0 _⟩
  case done =>
    rintro D ys W hD hys ⟨hO, hA, hR, hgood, hW⟩ hK
    obtain ⟨q1, q2⟩ := tidied_none (hys.all hgood)
    have Q1 := Lib.hid q1
    have Q2 := Lib.hid q2
    obtain ⟨m0, m1, m2, m3, m4, m5⟩ := six hO.m
    obtain ⟨_, p2, _, pf⟩ := hO.pcells hk
    have pf2 := pf (k * 4 + 2)
    have a0 := cell_of_block hA 0
    have r0 := cell_of_block hR 0
    have rf := unfrozen_of_block hR 0
    have hO2 := hO.setP (j := 2) hk (.inl rfl) (-1)
    have hW2 := hW.setP hO (k * 4 + 2) (.int .i64 (-1))
    obtain ⟨cs, hcs⟩ := hO.l.hh
    have hR2 := (heap_set1 W g (k * 4 + 2) (.int .i64 (-1)) (w.heap.size + 1) (ne_ty hR hcs (by decide))).trans hR
    have hK2 := (KeepsOthers.setCell W ⟨g, k * 4 + 2, none⟩ (.int .i64 (-1))).same D _ hK rfl
    have hO3 := hO2.flag hR2 0 (.bool false)
    have hW3 := hW2.setNew hB (Nat.le_succ _) (x := w.heap.size + 1) 0 (.bool false)
    have hR3 := block_setCell (i := 0) hR2 (.bool false)
    have hK3 := (KeepsOthers.setCell (W.setCell ⟨g, k * 4 + 2, none⟩ (.int .i64 (-1))) ⟨w.heap.size + 1, 0, none⟩ (.bool false)).same D _ hK2 rfl
    clear hys q1 q2 hgood pf hcs hO hW hO2 hW2 hR2 hK2
    gi_wp2
    generalize (W.setCell ⟨g, k * 4 + 2, none⟩ (.int .i64 (-1))).setCell ⟨w.heap.size + 1, 0, none⟩ (.bool false) = W3 at hO3 hW3 hR3 hK3 ⊢
    refine ⟨by simp, .inl ⟨_, _, rfl, run_takeDeferred hK3, ?_⟩⟩
    have hrow : ∀ r, some D = some r → ∃ o : Obj, W3.heap[r]? = some o ∧ o.isCells = false := fun r e => by cases e; exact ⟨_, hK3, rfl⟩
    have hg := grownBy_putObj' W3 D (.deferred none)
    have hc5 := cell_kept (cell_of_block hR3 0) hg hrow
    refine ⟨.bool false, ?_, by rw [Q1.out], V, by rw [Q2.out]; exact hO3.away (fun y cs t hy _ => keeps_cells hg hrow y cs t hy), hW3.step hB hg (fun r e => by cases e; omega)⟩
    simp [results, Tryz.results39, go_sem, hc5]
  case stop =>
    rintro D cd pre W hD ⟨kk, hkk, hpre⟩ ⟨rfl, ini, last, e1, e2, e3, ⟨V2, hO⟩, hR, hW⟩ hK
    subst e1
    have hini := hpre.last
    have hraw := raw_at (fun j hj => (HSL.out j hj).1) last.isLt e3 (hini.all e2)
    obtain ⟨q1, q2⟩ := tidied_at last.isLt e3 (hini.all e2)
    have Q1 := Lib.hid q1
    have Q2 := Lib.hid (q2.trans hraw.symm)
    clear q1 q2 hraw hini hpre e2 e3
    gi_wp2
    refine ⟨by simp, .inl ⟨_, _, rfl, run_takeDeferred hK, ?_⟩⟩
    have hrow : ∀ r, some D = some r → ∃ o : Obj, W.heap[r]? = some o ∧ o.isCells = false := fun r e => by cases e; exact ⟨_, hK, rfl⟩
    have hg := grownBy_putObj' W D (.deferred none)
    have hc5 := cell_kept (cell_of_block hR 0) hg hrow
    refine ⟨.bool true, ?_, by rw [Q1.out], V2, by rw [Q2.out]; exact hO.away (fun y cs t hy _ => keeps_cells hg hrow y cs t hy), hW.step hB hg (fun r e => by cases e; omega)⟩
    simp [results, Tryz.results39, go_sem, hc5]

end Go.Proofs.YtonpbmeekgdilaaGreat
