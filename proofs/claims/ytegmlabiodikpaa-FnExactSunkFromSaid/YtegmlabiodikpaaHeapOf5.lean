/-
  The program's generic list that is told what is less (chapter 2), at slots: sunk.
-/
import Derived.Test.YtegmlabiodikpaaHeapOf2
namespace Go.Proofs.Ytegmlabiodikpaa
open Go.RowKit Go.Joins
set_option linter.unusedVariables false

set_option maxRecDepth 100000 in
set_option maxHeartbeats 1000000 in
theorem hSink_out {v : Value} {n : Nat} {i : Int} {w : World} (hn : n ≤ 1048576) (hi : hasB n i = false) (hv : ∃ a cap, v = .slice a n cap) :
    Calls Try.prog 50 #[heapV v, .int .i64 i] w fun e w' => e = .returned (.tuple #[]) ∧ Below w.heap.size w w' := by
  have hv2 := hv
  have k0 := (Below.refl w.heap.size w).alloc (Nat.le_refl _) (.cells #[v, dueV] 57)
  have HB := heap_alloc_new w (.cells #[v, dueV] 57)
  have hl : w.heap.size < (w.alloc (.cells #[v, dueV] 57)).heap.size := by simp
  have c0 := cell_of_block HB 0
  have c1 := cell_of_block HB 1
  obtain ⟨a, cap, rfl⟩ := hv
  clear HB
  go_enter Try.func50, Try.ntmps50
  go_wp2_with fail
  refine wp_loop_rounds 1 ?_
  rw [rounds_succ]
  go_wp2_with fail
  go_at_call 45; refine (hHas_is false hi (Nat.le_succ_of_le hn) hv2).mono ?_; rintro e w1 ⟨rfl, hb1⟩
  go_wp2
  go_end0
  exact ⟨rfl, k0.trans (hb1.mono k0.size)⟩

set_option maxRecDepth 100000 in
set_option maxHeartbeats 4000000 in
theorem hSink_in {B g n cap k0 : Nat} {f : Slots} {w : World} (hn : n ≤ 1048576) (hk0 : k0 < n) (h : OwnAt w B g n cap f) :
    Calls Try.prog 50 #[heapV (.slice (some ⟨g, 0, none⟩) n cap), .int .i64 k0] w fun e w' => e = .returned (.tuple #[]) ∧ OwnAt w' B g n cap (sinkF f n k0) ∧ w.grownBy w' (some g) := by
  have hv2 : ∃ a c, (Value.slice (some ⟨g, 0, none⟩) n cap) = .slice a n c := ⟨_, _, rfl⟩
  have hO0 := h.alloc (.cells #[(.slice (some ⟨g, 0, none⟩) n cap), dueV] 57)
  have hg0 := World.grownBy_alloc w (.cells #[(.slice (some ⟨g, 0, none⟩) n cap), dueV] 57) (some g)
  have HB := Lib.hid (heap_alloc_new w (.cells #[(.slice (some ⟨g, 0, none⟩) n cap), dueV] 57))
  have hgl := h.lt
  have hne : w.heap.size ≠ g := by omega
  clear h
  go_enter Try.func50, Try.ntmps50
  go_wp2_with fail
  go_loopw [1] (fun i wr => ∃ (k : Nat) (f' : Slots), k < n ∧ i = .int .i64 k ∧ OwnAt wr B g n cap f' ∧ (w.alloc (.cells #[(.slice (some ⟨g, 0, none⟩) n cap), dueV] 57)).grownBy wr (some g) ∧ Hid (sinkF f n k0 = sinkF f' n k)) (fun i _ => n - (intOf i).toNat)
  case atStart => exact ⟨k0, f, hk0, rfl, hO0, g_refl _ _, Lib.hid rfl⟩
  case round =>
    obtain ⟨k, f', hk, rfl, hOk, hgk, hf⟩ := hrel
    have hBk := g_block hgk HB.out hne
    have c0 : wr.cell? ⟨w.heap.size, 0, none⟩ = some (.slice (some ⟨g, 0, none⟩) n cap) := cell_of_block hBk 0
    have c1 : wr.cell? ⟨w.heap.size, 1, none⟩ = some dueV := cell_of_block hBk 1
    have hl := lt_of_block hBk
    have hhas : hasB n (k : Int) = true := hasB_iff.2 ⟨by omega, by omega⟩
    clear hBk
    go_wp2_with fail
    go_at_call 45; refine (hHas_is true hhas (Nat.le_succ_of_le hn) hv2).mono ?_; rintro e w1 ⟨rfl, hb1⟩
    have y0 := (hb1.cell (p := ⟨w.heap.size, 0, none⟩) hl).trans c0; have y1 := (hb1.cell (p := ⟨w.heap.size, 1, none⟩) hl).trans c1; have hl1 := Nat.lt_of_lt_of_le hl hb1.size; have hO1 := hOk.below hb1; have hg1 := g_trans hgk (g_below hb1 (some g))
    clear c0 c1 hb1 hOk hgk hl hhas
    go_wp2_with fail
    go_at_call 62; refine (hLeast_any (Nat.le_succ_of_le hn) hk hO1.row).mono ?_; rintro e w2 ⟨rfl, hb2⟩
    have z0 := (hb2.cell (p := ⟨w.heap.size, 0, none⟩) hl1).trans y0; have z1 := (hb2.cell (p := ⟨w.heap.size, 1, none⟩) hl1).trans y1; have hl2 := Nat.lt_of_lt_of_le hl1 hb2.size; have hO2 := hO1.below hb2; have hg2 := g_trans hg1 (g_below hb2 (some g))
    clear y0 y1 hb2 hO1 hg1 hl1
    obtain ⟨b, hb⟩ : ∃ b : Nat, b = bestF f' n k := ⟨_, rfl⟩
    rw [← hb]
    have HBe := Lib.hid hb.symm
    clear hb
    by_cases hbk : b = k
    · subst hbk
      have hres := Lib.hid (hf.out.trans (sinkF_stop HBe.out))
      clear hf HBe
      go_wp2
      refine bodyPost_ret (results_none rfl _ _ _) rfl ?_
      exact ⟨rfl, hres.out ▸ hO2, g_trans hg0 hg2⟩
    · have hbn : b < n := HBe.out ▸ bestF_lt hk
      have hgt : k < b := by
        have := bestF_ge f' n k
        rw [HBe.out] at this
        omega
      have hS := Lib.hid ((hf.out.trans (sinkF_down hk (by rw [HBe.out]; exact hbk))).trans (by rw [HBe.out]))
      have hq : ((b : Int) == (k : Int)) = false := by rw [beq_eq_false_iff_ne]; omega
      clear hf HBe hbk
      go_wp2_with fail
      go_at_call 61; refine (hSwap_any (Nat.le_succ_of_le hn) hk hbn (Nat.ne_of_lt hgt) hO2).mono ?_; rintro e w3 ⟨rfl, hO3, hg3⟩
      have hg4 := g_trans hg2 hg3
      clear z0 z1 hl2 hO2 hg2 hg3
      go_wp2
      exact ⟨⟨b, swapF f' k b, hbn, rfl, hO3, hg4, hS⟩, by simp only [intOf]; omega⟩

end Go.Proofs.Ytegmlabiodikpaa
