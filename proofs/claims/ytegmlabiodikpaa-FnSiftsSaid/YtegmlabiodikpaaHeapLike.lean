/-
  The draw of a list and a slot; two lists alike.
-/
import Derived.Test.YtegmlabiodikpaaHeapDraw2
namespace Go.Proofs.Ytegmlabiodikpaa
open Go.RowKit Go.Joins
set_option linter.unusedVariables false

set_option maxHeartbeats 1000000 in
theorem drawPushed_any {B len : Nat} {sl : Value} {w : World} (hlen : len ≤ 4096) (hcode : CodeAt w B sl len) (hB : B ≤ w.heap.size) :
    Calls Try.prog 22 #[sl] w fun e w' => ∃ (v : Value) (n : Nat) (f : Slots) (a b : Int), e = .returned (.tuple #[v, .agg #[.int .i64 a, .int .i64 b]]) ∧ OwnRow w' w.heap.size v n f ∧ n ≤ 31 ∧ Below w.heap.size w w' := by
  have ha := (Below.refl w.heap.size w).alloc (Nat.le_refl _) (.cells #[.int .i64 0, .int .i64 0] 30)
  have hc1 := Lib.hid (hcode.below ((Below.refl B w).alloc hB (.cells #[.int .i64 0, .int .i64 0] 30)))
  have hn1 := Lib.hid (show w.heap.size + 1 = (w.alloc (.cells #[.int .i64 0, .int .i64 0] 30)).heap.size by simp)
  have A := Lib.hid (heap_alloc_new w (.cells #[.int .i64 0, .int .i64 0] 30))
  clear hcode
  go_enter Try.func22, Try.ntmps22
  go_wp2_with fail
  go_at_call 47; refine (l1New_any (w.heap.size + 1) hn1.out hlen hc1.out (by omega)).mono ?_; rintro e w1 ⟨rfl, hC, hb⟩
  have hlt := hC.lt
  have A1 := Lib.hid (b_block hb A.out (Nat.lt_succ_self _))
  have hb1 := ha.trans (hb.mono (Nat.le_succ _))
  clear hc1 hn1 A ha hb
  go_wp2_with fail
  go_at_call 51; refine (l2DrawAny_any hC).mono ?_; rintro e w2 ⟨v, n, f, rfl, hO, hn, hC2, hg⟩
  go_wp2_with fail
  go_at_call 52; refine (l1Below_any 40 (by omega) (by omega) hC2).mono ?_; rintro e w3 ⟨x, x0, x1, rfl, hC3, hg3⟩
  have hO3 := hO.kept hg3 (fun g' e => by injection e; omega)
  have hg4 := g_trans hg hg3
  clear hO hg hg3 hC2 hC
  go_wp2_with fail
  go_at_call 52; refine (l1Below_any 20 (by omega) (by omega) hC3).mono ?_; rintro e w4 ⟨y, y0, y1, rfl, hC4, hg5⟩
  have hO4 := hO3.kept hg5 (fun g' e => by injection e; omega)
  have hg6 := g_trans hg4 hg5
  have A4 := g_block hg6 A1.out (by omega)
  have r0 : w4.cell? ⟨w.heap.size, 0, none⟩ = some (.int .i64 0) := cell_of_block A4 0
  have r1 : w4.cell? ⟨w.heap.size, 1, none⟩ = some (.int .i64 0) := cell_of_block A4 1
  have f0 := unfrozen_of_block A4 0
  have f1 := unfrozen_of_block A4 1
  have hb6 := hb1.trans (b_grown hg6 (show w.heap.size ≤ w.heap.size + 1 by omega) hb1.size)
  have hO6 := ((hO4.set (b := w.heap.size) (by omega) 0 (.int .i64 x)).set (b := w.heap.size) (by omega) 1 (.int .i64 y)).mono hb1.size
  clear hO3 hg4 hg5 hC3 A1 A4 hO4 hg6 hC4
  go_wp2
  exact bodyPost_ret (v := .tuple #[v, .agg #[.int .i64 x, .int .i64 y]]) (by simp [results, Try.results22, go_sem, r0, r1]) rfl
    ⟨v, n, f, x, y, rfl, hO6, hn, (hb6.setCell (p := ⟨w.heap.size, 0, none⟩) (Nat.le_refl _) _).setCell (p := ⟨w.heap.size, 1, none⟩) (Nat.le_refl _) _⟩

set_option maxHeartbeats 400000 in
theorem likeSlots_same {v1 v2 : Value} {n : Nat} {f : Slots} {w : World} (hn : n ≤ 1048576) (h1 : RowAt w v1 n f) (h2 : RowAt w v2 n f) :
    Calls Try.prog 27 #[v1, v2] w (ReadsB true w) := by
  by_cases h0 : n = 0
  · obtain ⟨a1, k1, rfl⟩ := h1.form
    obtain ⟨a2, k2, rfl⟩ := h2.form
    have H0 := Lib.hid h0
    clear h0 h1 h2
    go_enter Try.func27, Try.ntmps27
    go_wp2
    go_loop [5] (fun i => i = .int .i64 0) (fun _ => 0)
    case atStart => rfl
    case round =>
      subst hrel
      have h1 : ¬ (0 : Int) < (n : Int) := by have := H0.out; omega
      have h2 : ¬ 0 < n := by have := H0.out; omega
      go_wp2
      go_ret
      exact ⟨0, rfl, rfl⟩
  · rcases h1 with ⟨h1, _⟩ | ⟨b1, o1, c1, rfl, hl1, hc1⟩
    · exact absurd h1 h0
    rcases h2 with ⟨h2, _⟩ | ⟨b2, o2, c2, rfl, hl2, hc2⟩
    · exact absurd h2 h0
    have H1 := Lib.hid hc1
    have H2 := Lib.hid hc2
    clear hc1 hc2 h0
    go_enter Try.func27, Try.ntmps27
    go_wp2
    go_loopw [5] (fun i wr => ∃ k m : Nat, k ≤ n ∧ i = .int .i64 k ∧ wr = w.drewN m) (fun i _ => n - (intOf i).toNat)
    case atStart => exact ⟨0, 0, Nat.zero_le _, rfl, rfl⟩
    case round =>
      obtain ⟨k, m, hk, rfl, rfl⟩ := hrel
      by_cases hlt : k < n
      · obtain ⟨x0, x1⟩ := H1.out k hlt
        obtain ⟨y0, y1⟩ := H2.out k hlt
        have i1 : (k : Int) < (n : Int) := by omega
        go_wp2
        go_quiet (fail)
        go_wp2
        exact ⟨⟨k + 1, _, by omega, by go_num, rfl⟩, by simp only [intOf]; omega⟩
      · go_wp2
        go_ret
        exact ⟨_, rfl, rfl⟩

theorem like_low {v1 v2 : Value} {n : Nat} {f : Slots} {w : World} (hn : n ≤ 1048576) (h1 : RowAt w v1 n f) (h2 : RowAt w v2 n f) :
    Calls Try.prog 27 #[v1, v2] w fun e w' => e = .returned (.bool true) ∧ Below w.heap.size w w' :=
  (likeSlots_same hn h1 h2).mono fun e w' ⟨m, he, hw⟩ => ⟨he, by rw [hw]; exact b_drewN (Below.refl _ _) m⟩
theorem sift_heap {f : Slots} {n : Nat} {i : Int} (h : nearAt f n i) : heapB (sunkF (raisedF f n i) n i) n = true := by
  obtain ⟨hn, h1, h2⟩ := h
  cases hi : hasB n i
  · rw [raisedF_no hi, sunkF_no hi]
    exact heapB_iff.2 ⟨h2 hi, hn⟩
  · obtain ⟨j0, j1⟩ := hasB_iff.1 hi
    rw [raisedF_has hi, sunkF_has hi]
    exact heapB_iff.2 ⟨near_heap (by omega) (h1 hi), hn⟩

end Go.Proofs.Ytegmlabiodikpaa
