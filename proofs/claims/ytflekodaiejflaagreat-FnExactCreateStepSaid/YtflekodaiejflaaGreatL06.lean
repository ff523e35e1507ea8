/-
  The program's generic list that is told what is less (chapter 2), at slots: raised.
-/
import Derived.Test.YtflekodaiejflaaGreatL05
namespace Go.Proofs.YtflekodaiejflaaGreat
open Go.RowKit Go.Joins
set_option linter.unusedVariables false
set_option linter.unusedSimpArgs false

/-- p is k's parent -/
def Par (k p : Nat) : Prop := 0 < k ∧ k ≤ 1048576 ∧ p = (k - 1) / 4
theorem parentOf_par {k p : Nat} (h : Par k p) (w : World) : Calls Tryz.prog 161 #[.int .i64 k] w fun e w' => e = .returned (.int .i64 p) ∧ w = w' := by
  obtain ⟨h0, h1, h2⟩ := h
  have e : ((k : Int) - 1).tdiv 4 = (p : Int) := by
    rw [h2, show ((k : Int) - 1) = ((k - 1 : Nat) : Int) by omega, Int.tdiv_eq_ediv_of_nonneg (by omega)]; omega
  have := parentOf_any (k : Int) w (by omega) (by omega)
  rwa [e] at this

set_option maxRecDepth 100000 in
set_option maxHeartbeats 1000000 in
theorem hRaise_out {v : Value} {n : Nat} {i : Int} {w : World} (hn : n ≤ 1048576) (hi : hasB n i = false) (hv : ∃ a cap, v = .slice a n cap) :
    Calls Tryz.prog 151 #[heapV v, .int .i64 i] w fun e w' => e = .returned (.tuple #[]) ∧ Below w.heap.size w w' := by
  have hv2 := hv
  have k0 := (Below.refl w.heap.size w).alloc (Nat.le_refl _) (.cells #[v, dueV] 158)
  have HB := heap_alloc_new w (.cells #[v, dueV] 158)
  have hl : w.heap.size < (w.alloc (.cells #[v, dueV] 158)).heap.size := by simp
  have c0 := cell_of_block HB 0
  have c1 := cell_of_block HB 1
  obtain ⟨a, cap, rfl⟩ := hv
  clear HB
  go_enter Tryz.func151, Tryz.ntmps151
  go_wp2_with fail
  refine wp_loop_rounds 1 ?_
  rw [rounds_succ]
  go_wp2_with fail
  (first | (go_region_with (first
    | (go_at_call 159; refine (hHas_is false hi (Nat.le_succ_of_le hn) hv2).mono ?_; rintro e w1 ⟨rfl, hb1⟩; have y0 := (hb1.cell (p := ⟨w.heap.size, 0, none⟩) hl).trans c0; have y1 := (hb1.cell (p := ⟨w.heap.size, 1, none⟩) hl).trans c1))) | fail)
  all_goals
    go_wp2
    go_end0
    exact ⟨rfl, k0.drew.trans (hb1.mono k0.drew.size)⟩

set_option maxRecDepth 100000 in
set_option maxHeartbeats 4000000 in
theorem hRaise_in {B g n cap k0 : Nat} {f : Slots} {w : World} (hn : n ≤ 1048576) (hk0 : k0 < n) (h : OwnAt w B g n cap f) :
    Calls Tryz.prog 151 #[heapV (.slice (some ⟨g, 0, none⟩) n cap), .int .i64 k0] w fun e w' => e = .returned (.tuple #[]) ∧ OwnAt w' B g n cap (raiseF f k0) ∧ w.grownBy w' (some g) := by
  have hv2 : ∃ a c, (Value.slice (some ⟨g, 0, none⟩) n cap) = .slice a n c := ⟨_, _, rfl⟩
  have hO0 := h.alloc (.cells #[(.slice (some ⟨g, 0, none⟩) n cap), dueV] 158)
  have hg0 := World.grownBy_alloc w (.cells #[(.slice (some ⟨g, 0, none⟩) n cap), dueV] 158) (some g)
  have HB := Lib.hid (heap_alloc_new w (.cells #[(.slice (some ⟨g, 0, none⟩) n cap), dueV] 158))
  have hgl := h.lt
  have hne : w.heap.size ≠ g := by omega
  clear h
  go_enter Tryz.func151, Tryz.ntmps151
  go_wp2_with fail
  go_loopw [1] (fun i wr => ∃ (k : Nat) (f' : Slots), k < n ∧ i = .int .i64 k ∧ OwnAt wr B g n cap f' ∧ (w.alloc (.cells #[(.slice (some ⟨g, 0, none⟩) n cap), dueV] 158)).grownBy wr (some g) ∧ Hid (raiseF f k0 = raiseF f' k)) (fun i _ => (intOf i).toNat)
  case atStart => exact ⟨k0, f, hk0, rfl, hO0, g_refl _ _, Lib.hid rfl⟩
  case round =>
    obtain ⟨k, f', hk, rfl, hOk, hgk, hf⟩ := hrel
    have hBk := g_block hgk HB.out hne
    have c0 : wr.cell? ⟨w.heap.size, 0, none⟩ = some (.slice (some ⟨g, 0, none⟩) n cap) := cell_of_block hBk 0
    have c1 : wr.cell? ⟨w.heap.size, 1, none⟩ = some dueV := cell_of_block hBk 1
    have hl := lt_of_block hBk
    have hhas : hasB n (k : Int) = true := hasB_iff.2 ⟨by omega, by omega⟩
    clear hBk
    cases hup : upB f' k
    · have hfk := Lib.hid (hf.out.trans (raiseF_stop hup))
      clear hf
      by_cases hz : k = 0
      · subst hz
        clear hup
        go_wp2_with fail
        (first | (go_region_with (first
          | (go_at_call 159; refine (hHas_is true hhas (Nat.le_succ_of_le hn) hv2).mono ?_; rintro e w1 ⟨rfl, hb1⟩
             have y0 := (hb1.cell (p := ⟨w.heap.size, 0, none⟩) hl).trans c0; have y1 := (hb1.cell (p := ⟨w.heap.size, 1, none⟩) hl).trans c1; have hl1 := Nat.lt_of_lt_of_le hl hb1.size; have hO1 := hOk.drew.below hb1; have hg1 := g_trans (g_drew hgk) (g_below hb1 (some g))))) | fail)
        all_goals
          go_wp2
          go_end0
          exact ⟨rfl, hfk.out ▸ hO1, g_trans hg0 hg1⟩
      · obtain ⟨p, hp⟩ : ∃ p : Nat, p = (k - 1) / 4 := ⟨_, rfl⟩
        have hpar : Par k p := ⟨by omega, by omega, hp⟩
        have b1 : p < n := by omega
        have b2 : (k : Int) < (n : Int) := by omega
        have hk0' : (0 : Int) < (k : Int) := by omega
        have hd0 : decide (0 < k) = true := by simp; omega
        have hd : decide ((f' k).2 < (f' p).2) = false := by
          simp only [upB, Bool.and_eq_false_iff, decide_eq_false_iff_not, ← hp] at hup
          simp only [decide_eq_false_iff_not]
          omega
        clear hup hz hp
        go_wp2_with fail
        (first | (go_region_with (first
          | (go_at_call 159; refine (hHas_is true hhas (Nat.le_succ_of_le hn) hv2).mono ?_; rintro e w1 ⟨rfl, hb1⟩
             have y0 := (hb1.cell (p := ⟨w.heap.size, 0, none⟩) hl).trans c0; have y1 := (hb1.cell (p := ⟨w.heap.size, 1, none⟩) hl).trans c1; have hl1 := Nat.lt_of_lt_of_le hl hb1.size; have hO1 := hOk.drew.below hb1; have hg1 := g_trans (g_drew hgk) (g_below hb1 (some g)))
          | (go_at_call 161; refine (parentOf_par hpar _).mono ?_; rintro e w' ⟨rfl, rfl⟩)
          | (go_at_call 160; refine (hLess_is false hd (Nat.le_succ_of_le hn) hk b1 hO1.row).mono ?_; rintro e w2 ⟨rfl, hb2⟩
             have z0 := (hb2.cell (p := ⟨w.heap.size, 0, none⟩) hl1).trans y0; have z1 := (hb2.cell (p := ⟨w.heap.size, 1, none⟩) hl1).trans y1; have hl2 := Nat.lt_of_lt_of_le hl1 hb2.size; have hO2 := hO1.below hb2; have hg2 := g_trans hg1 (g_below hb2 (some g))))) | fail)
        all_goals
          clear hd hd0 hk0' b2 hhas hpar y0 y1 z0 z1 c0 c1
          go_wp2
          go_end0
          exact ⟨rfl, hfk.out ▸ hO2, g_trans hg0 hg2⟩
    · have hfk := Lib.hid (hf.out.trans (raiseF_up hup))
      clear hf
      obtain ⟨p, hp⟩ : ∃ p : Nat, p = (k - 1) / 4 := ⟨_, rfl⟩
      have hkz : 0 < k := by simp [upB] at hup; omega
      have hpar : Par k p := ⟨by omega, by omega, hp⟩
      have b1 : p < n := by omega
      have hpk : p < k := by omega
      have b2 : (k : Int) < (n : Int) := by omega
      have hk0' : (0 : Int) < (k : Int) := by omega
      have hd0 : decide (0 < k) = true := by simp; omega
      have hd : decide ((f' k).2 < (f' p).2) = true := by simp only [upB, Bool.and_eq_true, ← hp] at hup; exact hup.2
      rw [← hp] at hfk
      clear hup hp hkz
      go_wp2_with fail
      (first | (go_region_with (first
        | (go_at_call 159; refine (hHas_is true hhas (Nat.le_succ_of_le hn) hv2).mono ?_; rintro e w1 ⟨rfl, hb1⟩
           have y0 := (hb1.cell (p := ⟨w.heap.size, 0, none⟩) hl).trans c0; have y1 := (hb1.cell (p := ⟨w.heap.size, 1, none⟩) hl).trans c1; have hl1 := Nat.lt_of_lt_of_le hl hb1.size; have hO1 := hOk.drew.below hb1; have hg1 := g_trans (g_drew hgk) (g_below hb1 (some g)))
        | (go_at_call 161; refine (parentOf_par hpar _).mono ?_; rintro e w' ⟨rfl, rfl⟩)
        | (go_at_call 160; refine (hLess_is true hd (Nat.le_succ_of_le hn) hk b1 hO1.row).mono ?_; rintro e w2 ⟨rfl, hb2⟩
           have z0 := (hb2.cell (p := ⟨w.heap.size, 0, none⟩) hl1).trans y0; have z1 := (hb2.cell (p := ⟨w.heap.size, 1, none⟩) hl1).trans y1; have hl2 := Nat.lt_of_lt_of_le hl1 hb2.size; have hO2 := hO1.below hb2; have hg2 := g_trans hg1 (g_below hb2 (some g))))) | fail)
      all_goals
        clear c0 c1 y0 y1 hb1 hb2 hO1 hg1 hl1 hl hOk hgk hd hd0 hk0' hhas b2
        go_wp2_with fail
        (first | (go_region_with (first
          | (go_at_call 161; refine (parentOf_par hpar _).mono ?_; rintro e w' ⟨rfl, rfl⟩)
          | (go_at_call 162; refine (hSwap_any (Nat.le_succ_of_le hn) hk b1 (Nat.ne_of_gt hpk) hO2.drew).mono ?_; rintro e w3 ⟨rfl, hO3, hg3⟩; have hg4 := g_trans (g_drew hg2) hg3))) | fail)
        all_goals
          clear z0 z1 hl2 hO2 hg2 hg3
          go_wp2_with fail
          go_at_call 161; refine (parentOf_par hpar _).mono ?_; rintro e w' ⟨rfl, rfl⟩
          go_wp2
          exact ⟨⟨p, swapF f' k p, b1, rfl, hO3, hg4, hfk⟩, by simp only [intOf]; omega⟩

end Go.Proofs.YtflekodaiejflaaGreat
