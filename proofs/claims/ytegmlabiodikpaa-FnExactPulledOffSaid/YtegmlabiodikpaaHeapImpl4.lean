/-
  The program's heap (chapter 2): one slot taken out.
-/
import Derived.Test.YtegmlabiodikpaaHeapImpl3
import Derived.Test.YtegmlabiodikpaaHeapOf5
namespace Go.Proofs.Ytegmlabiodikpaa
open Go.RowKit Go.Joins
set_option linter.unusedVariables false

/-- raised, whether there is such a slot or not -/
theorem hRaise_own {B g n cap : Nat} {f : Slots} {w : World} (i : Int) (hn : n ≤ 1048576) (h : OwnAt w B g n cap f) :
    Calls Try.prog 49 #[heapV (.slice (some ⟨g, 0, none⟩) n cap), .int .i64 i] w fun e w' => e = .returned (.tuple #[]) ∧ OwnAt w' B g n cap (raisedF f n i) ∧ w.grownBy w' (some g) := by
  cases hi : hasB n i
  · rw [raisedF_no hi]
    exact (hRaise_out hn hi ⟨_, _, rfl⟩).mono fun e w' ⟨he, hb⟩ => ⟨he, h.below hb, g_below hb _⟩
  · obtain ⟨i0, i1⟩ := hasB_iff.1 hi
    obtain ⟨k, rfl⟩ : ∃ k : Nat, i = k := ⟨i.toNat, by omega⟩
    rw [raisedF_has hi, Int.toNat_natCast]
    exact hRaise_in hn (by omega) h
/-- sunk, whether there is such a slot or not -/
theorem hSink_own {B g n cap : Nat} {f : Slots} {w : World} (i : Int) (hn : n ≤ 1048576) (h : OwnAt w B g n cap f) :
    Calls Try.prog 50 #[heapV (.slice (some ⟨g, 0, none⟩) n cap), .int .i64 i] w fun e w' => e = .returned (.tuple #[]) ∧ OwnAt w' B g n cap (sunkF f n i) ∧ w.grownBy w' (some g) := by
  cases hi : hasB n i
  · rw [sunkF_no hi]
    exact (hSink_out hn hi ⟨_, _, rfl⟩).mono fun e w' ⟨he, hb⟩ => ⟨he, h.below hb, g_below hb _⟩
  · obtain ⟨i0, i1⟩ := hasB_iff.1 hi
    obtain ⟨k, rfl⟩ : ∃ k : Nat, i = k := ⟨i.toNat, by omega⟩
    rw [sunkF_has hi, Int.toNat_natCast]
    exact hSink_in hn (by omega) h
/-- the last one in the place of the slot k, raised and sunk there: also where it was itself the last one -/
theorem pulled_same {f : Slots} {n k m : Nat} (hm : m = n - 1) (hk : k < m ∨ k = m) : sunkF (raisedF (putF f k (f m)) m k) m k = pulledF f n k := by
  subst hm
  rcases hk with hk | rfl
  · rw [pulledF_mid hk]
  · have hno : hasB (n - 1) ((n - 1 : Nat) : Int) = false := by
      cases h : hasB (n - 1) ((n - 1 : Nat) : Int)
      · rfl
      · have := hasB_iff.1 h; omega
    have hp : putF f (n - 1) (f (n - 1)) = f := by
      funext j
      by_cases e : j = n - 1
      · rw [e, putF_same]
      · exact putF_other f _ e
    rw [raisedF_no hno, sunkF_no hno, hp]
    by_cases hn : 0 < n
    · rw [pulledF_last (by omega) (by omega)]
    · have : n = 0 := by omega
      subst this
      rfl

set_option maxRecDepth 100000 in
set_option maxHeartbeats 2000000 in
theorem hPull_any {B b g n cap k : Nat} {f : Slots} {w : World} (hn : n ≤ 1048576) (hk : k < n) (hB : B ≤ b) (hin : HeapIn w b (.slice (some ⟨g, 0, none⟩) n cap)) (h : OwnAt w B g n cap f) :
    Calls Try.prog 46 #[.pointer (some ⟨b, 0, none⟩), .int .i64 k] w fun e w' => e = .returned (.agg #[.int .i64 (f k).1, .int .i64 (f k).2]) ∧
      ∃ v', HeapIn w' b v' ∧ OwnRow w' B v' (n - 1) (pulledF f n k) ∧ Below B w w' := by
  have hbl := lt_of_block hin
  have hgl := h.lt
  have hne := h.ne_heap hin
  have hgB := h.1
  have hcap := h.2.1
  have hBs : B ≤ w.heap.size := Nat.le_trans hB (Nat.le_of_lt hbl)
  have hz : w.heap.size < (w.alloc (.cells #[.int .i64 0, .int .i64 0] 30)).heap.size := by simp
  have hsz : (w.alloc (.cells #[.int .i64 0, .int .i64 0] 30)).heap.size = w.heap.size + 1 := by simp
  have kA := ((Below.refl B w).alloc hBs (.cells #[.int .i64 0, .int .i64 0] 30)).alloc (Nat.le_trans hBs (Nat.le_of_lt hz)) (.cells #[.int .i64 (f k).1, .int .i64 (f k).2] 30)
  have hinA : HeapIn ((w.alloc (.cells #[.int .i64 0, .int .i64 0] 30)).alloc (.cells #[.int .i64 (f k).1, .int .i64 (f k).2] 30)) b (.slice (some ⟨g, 0, none⟩) n cap) := alloc_block _ (alloc_block _ hin)
  have hOA := (h.alloc (.cells #[.int .i64 0, .int .i64 0] 30)).alloc (.cells #[.int .i64 (f k).1, .int .i64 (f k).2] 30)
  have HR0 := Lib.hid (alloc_block (.cells #[.int .i64 (f k).1, .int .i64 (f k).2] 30) (heap_alloc_new w (.cells #[.int .i64 0, .int .i64 0] 30)))
  have HR1 := heap_alloc_new (w.alloc (.cells #[.int .i64 0, .int .i64 0] 30)) (.cells #[.int .i64 (f k).1, .int .i64 (f k).2] 30)
  rw [hsz] at HR1
  have HR1 := Lib.hid HR1
  have hlA : w.heap.size + 1 < ((w.alloc (.cells #[.int .i64 0, .int .i64 0] 30)).alloc (.cells #[.int .i64 (f k).1, .int .i64 (f k).2] 30)).heap.size := by simp
  -- what is read ahead
  have hinZ : HeapIn (w.alloc (.cells #[.int .i64 0, .int .i64 0] 30)) b (.slice (some ⟨g, 0, none⟩) n cap) := alloc_block _ hin
  have a0 := cell_of_block hinZ 0
  obtain ⟨i0, i1⟩ := (h.alloc (.cells #[.int .i64 0, .int .i64 0] 30)).cells hk
  have b0 := cell_of_block hinA 0
  have b1 := cell_of_block hinA 1
  have hki : (k : Int) < (n : Int) := by omega
  clear hinZ hz
  go_enter Try.func46, Try.ntmps46
  go_wp2_with fail
  go_at_call 56; refine (hSize_any (Nat.le_succ_of_le hn) ⟨_, _, rfl⟩).mono ?_; rintro e w1 ⟨rfl, hb1⟩
  have hin1 := b_block hb1 hinA (Nat.lt_trans hbl (Nat.lt_trans (Nat.lt_succ_self _) hlA))
  have HR01 := Lib.hid (b_block hb1 HR0.out (Nat.lt_trans (Nat.lt_succ_self _) hlA))
  have HR11 := Lib.hid (b_block hb1 HR1.out hlA)
  have hO1 := hOA.below hb1
  have k1 := kA.trans (hb1.mono (Nat.le_trans hBs kA.size))
  have hm : ((n : Int) - 1) = ((n - 1 : Nat) : Int) := by omega
  obtain ⟨m, hmn⟩ : ∃ m : Nat, m = n - 1 := ⟨_, rfl⟩
  have e1 : IntKind.i64.wrap ((n : Int) - 1) = (m : Int) := by rw [IntKind.wrap_i64]; omega
  have HM := Lib.hid hmn
  have hmlt : m < n := by omega
  have hkm : k < m ∨ k = m := by omega
  have HKM := Lib.hid hkm
  have hm1048 : m ≤ 1048576 := by omega
  clear hm hmn hkm HR0 HR1 hlA hb1 hOA hinA kA a0 i0 i1 b0 b1 h hin
  have b0 : w1.cell? ⟨b, 0, none⟩ = some (.slice (some ⟨g, 0, none⟩) n cap) := cell_of_block hin1 0
  obtain ⟨p0, p1⟩ := hO1.cells hmlt
  obtain ⟨q0, q1⟩ := hO1.cells hk
  have f0 := hO1.free (k * 2)
  have f1 := hO1.free (k * 2 + 1)
  have hmi : (m : Int) < (n : Int) := by omega
  have hlt1 := hO1.lt
  have hO2 := (hO1.put hk (f m).1 (f m).2).drew
  have hg2 := g_drew (g_own (g_own (g_refl w1 (some g)) (k * 2) (.int .i64 (f m).1)) (k * 2 + 1) (.int .i64 (f m).2))
  go_wp2_with fail
  go_region
  all_goals
    clear b0 p0 p1 q0 q1 f0 f1 e1
    generalize World.drew _ = w2 at *
    have hin2 : HeapIn w2 b (.slice (some ⟨g, 0, none⟩) n cap) := g_block hg2 hin1 hne
    have HR02 := Lib.hid (g_block hg2 HR01.out (Nat.ne_of_gt hgl))
    have HR12 := Lib.hid (g_block hg2 HR11.out (Nat.ne_of_gt (Nat.lt_succ_of_lt hgl)))
    have k2 := k1.trans (b_grown hg2 hgB (Nat.le_trans hBs k1.size))
    have hbs2 : w.heap.size + 1 < w2.heap.size := lt_of_block HR12.out
    clear hin1 HR01 HR11 hO1 k1 hg2 hlt1
    have b0 : w2.cell? ⟨b, 0, none⟩ = some (.slice (some ⟨g, 0, none⟩) n cap) := cell_of_block hin2 0
    have b1 := unfrozen_of_block hin2 0
    have hcap2 : m ≤ cap := by omega
    have hO3 := (hO2.cut (Nat.le_of_lt hmlt)).block (Below.heap_setCell w2 ⟨b, 0, none⟩ (.slice (some ⟨g, 0, none⟩) m cap) g (fun e => hne e.symm))
    have hin3 : HeapIn (w2.setCell ⟨b, 0, none⟩ (.slice (some ⟨g, 0, none⟩) m cap)) b (.slice (some ⟨g, 0, none⟩) m cap) := block_setCell hin2 _
    have k3 := k2.setCell (p := ⟨b, 0, none⟩) hB (.slice (some ⟨g, 0, none⟩) m cap)
    have HR03 := Lib.hid ((Below.heap_setCell w2 ⟨b, 0, none⟩ (.slice (some ⟨g, 0, none⟩) m cap) w.heap.size (Nat.ne_of_gt hbl)).trans HR02.out)
    have HR13 := Lib.hid ((Below.heap_setCell w2 ⟨b, 0, none⟩ (.slice (some ⟨g, 0, none⟩) m cap) (w.heap.size + 1) (Nat.ne_of_gt (Nat.lt_succ_of_lt hbl))).trans HR12.out)
    have x0 := cell_of_block hin3 0
    have x1 := cell_of_block hin3 1
    clear hin2 HR02 HR12 k2 hO2
    go_wp2_with fail
    generalize w2.setCell ⟨b, 0, none⟩ (.slice (some ⟨g, 0, none⟩) m cap) = w3 at *
    clear hcap2 hbs2 b0 b1
    go_at_call 49; refine (hRaise_own (k : Int) hm1048 hO3).mono ?_; rintro e w4 ⟨rfl, hO4, hg4⟩
    have hin4 := g_block hg4 hin3 hne
    have HR04 := Lib.hid (g_block hg4 HR03.out (Nat.ne_of_gt hgl))
    have HR14 := Lib.hid (g_block hg4 HR13.out (Nat.ne_of_gt (Nat.lt_succ_of_lt hgl)))
    have k4 := k3.trans (b_grown hg4 hgB (Nat.le_trans hBs k3.size))
    have y0 := cell_of_block hin4 0
    have y1 := cell_of_block hin4 1
    clear x0 x1 hin3 HR03 HR13 k3 hg4 hO3
    go_wp2_with fail
    go_at_call 50; refine (hSink_own (k : Int) hm1048 hO4).mono ?_; rintro e w5 ⟨rfl, hO5, hg5⟩
    have hin5 := g_block hg5 hin4 hne
    have hR05 := g_block hg5 HR04.out (Nat.ne_of_gt hgl)
    have hR15 := g_block hg5 HR14.out (Nat.ne_of_gt (Nat.lt_succ_of_lt hgl))
    have k5 := k4.trans (b_grown hg5 hgB (Nat.le_trans hBs k4.size))
    have r0 := cell_of_block hR05 0
    have r1 := cell_of_block hR05 1
    have z0 := unfrozen_of_block hR05 0
    have z1 := unfrozen_of_block hR05 1
    have t0 := cell_of_block hR15 0
    have t1 := cell_of_block hR15 1
    have hin6 : HeapIn ((w5.setCell ⟨w.heap.size, 0, none⟩ (.int .i64 (f k).1)).setCell ⟨w.heap.size, 1, none⟩ (.int .i64 (f k).2)) b (.slice (some ⟨g, 0, none⟩) m cap) :=
      (Below.heap_setCell _ ⟨w.heap.size, 1, none⟩ _ b (Nat.ne_of_lt hbl)).trans ((Below.heap_setCell _ ⟨w.heap.size, 0, none⟩ _ b (Nat.ne_of_lt hbl)).trans hin5)
    have hO6 := (hO5.block (Below.heap_setCell w5 ⟨w.heap.size, 0, none⟩ (.int .i64 (f k).1) g (Nat.ne_of_lt hgl))).block (Below.heap_setCell (w5.setCell ⟨w.heap.size, 0, none⟩ (.int .i64 (f k).1)) ⟨w.heap.size, 1, none⟩ (.int .i64 (f k).2) g (Nat.ne_of_lt hgl))
    have k6 := (k5.setCell (p := ⟨w.heap.size, 0, none⟩) hBs (.int .i64 (f k).1)).setCell (p := ⟨w.heap.size, 1, none⟩) hBs (.int .i64 (f k).2)
    rw [pulled_same HM.out HKM.out] at hO6
    clear y0 y1 hin4 HR04 HR14 k4 hg5 hO4 hO5 hin5 k5 hR05 hR15
    go_wp2
    exact bodyPost_ret (v := .agg #[.int .i64 (f k).1, .int .i64 (f k).2]) (by simp [results, Try.results46, go_sem, r0, r1]) rfl
      ⟨rfl, _, hin6, HM.out ▸ hO6.own, k6⟩

end Go.Proofs.Ytegmlabiodikpaa
