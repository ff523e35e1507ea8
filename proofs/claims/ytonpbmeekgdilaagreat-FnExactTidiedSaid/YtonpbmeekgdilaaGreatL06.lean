/-
  The program's generic list that is told what is less (chapter 2), at slots: its small methods.
-/
import Derived.Test.YtonpbmeekgdilaaGreatL05
import Derived.Test.YtonpbmeekgdilaaGreatL00
import Derived.Laws.EntriesVeiled
import Derived.Test.YtonpbmeekgdilaaGreatL01
namespace Go.Proofs.YtonpbmeekgdilaaGreat
open Go.RowKit Go.Joins
set_option linter.unusedVariables false

/-- what is less, as a value -/
abbrev dueV : Value := .func (.func 101) #[] #[]
/-- a heap of the program's, as a value -/
abbrev heapV (v : Value) : Value := .agg #[v, dueV]

set_option maxHeartbeats 400000 in
theorem hSize_any {v : Value} {n : Nat} {w : World} (hn : n ≤ 1048577) (hv : ∃ a cap, v = .slice a n cap) :
    Calls Tryz.prog 121 #[heapV v] w fun e w' => e = .returned (.int .i64 n) ∧ Below w.heap.size w w' := by
  obtain ⟨a, cap, rfl⟩ := hv
  go_enter Tryz.func121, Tryz.ntmps121
  go_wp2
  go_ret
  exact ⟨rfl, (Below.refl _ _).alloc (Nat.le_refl _) _⟩

set_option maxHeartbeats 400000 in
theorem dueBefore_any (a b c d : Int) (w : World) :
    Calls Tryz.prog 101 #[.agg #[.int .i64 a, .int .i64 b], .agg #[.int .i64 c, .int .i64 d]] w fun e w' => e = .returned (.bool (decide (b < d))) ∧ Below w.heap.size w w' := by
  go_enter Tryz.func101, Tryz.ntmps101
  go_wp2
  go_ret
  exact ⟨rfl, ((Below.refl _ _).alloc (Nat.le_refl _) _).alloc (by simp) _⟩

set_option maxHeartbeats 400000 in
theorem parentOf_any (i : Int) (w : World) (h0 : -9223372036854775808 < i) (h1 : i < 9223372036854775808) :
    Calls Tryz.prog 129 #[.int .i64 i] w fun e w' => e = .returned (.int .i64 ((i - 1).tdiv 4)) ∧ w = w' := by
  go_enter Tryz.func129, Tryz.ntmps129
  go_wp2
  go_ret
  exact ⟨rfl, rfl⟩

set_option maxHeartbeats 400000 in
theorem hHas_any {v : Value} {n : Nat} (i : Int) {w : World} (hn : n ≤ 1048577) (hv : ∃ a cap, v = .slice a n cap) :
    Calls Tryz.prog 106 #[heapV v, .int .i64 i] w fun e w' => e = .returned (.bool (hasB n i)) ∧ Below w.heap.size w w' := by
  have hv2 := hv
  obtain ⟨a, cap, rfl⟩ := hv
  go_enter Tryz.func106, Tryz.ntmps106
  go_wp2_with fail
  go_at_call 121; refine (hSize_any hn hv2).mono ?_; rintro e w1 ⟨rfl, hb⟩
  go_wp2_with fail
  go_at_call 56; refine (within_any _ _ _ _).mono ?_; rintro e w' ⟨rfl, rfl⟩
  go_wp2
  go_ret
  exact ⟨rfl, ((Below.refl _ _).alloc (Nat.le_refl _) _).trans (hb.mono (by simp))⟩

theorem hHas_is {v : Value} {n : Nat} {i : Int} (x : Bool) (h : hasB n i = x) {w : World} (hn : n ≤ 1048577) (hv : ∃ a cap, v = .slice a n cap) :
    Calls Tryz.prog 106 #[heapV v, .int .i64 i] w fun e w' => e = .returned (.bool x) ∧ Below w.heap.size w w' := h ▸ hHas_any i hn hv

set_option maxRecDepth 100000 in
set_option maxHeartbeats 1000000 in
theorem hLess_is {v : Value} {n : Nat} {f : Slots} {i j : Nat} (x : Bool) (hx : decide ((f i).2 < (f j).2) = x) {w : World} (hn : n ≤ 1048577) (hi : i < n) (hj : j < n) (h : RowAt w v n f) :
    Calls Tryz.prog 128 #[heapV v, .int .i64 i, .int .i64 j] w fun e w' => e = .returned (.bool x) ∧ Below w.heap.size w w' := by
  rcases h with ⟨rfl, _⟩ | ⟨b, off, cap, rfl, hl, hc⟩
  · omega
  have hb0 := (Below.refl w.heap.size w).alloc (Nat.le_refl _) (.cells #[.slice (some ⟨b, off, none⟩) n cap, dueV] 125)
  have HB := heap_alloc_new w (.cells #[.slice (some ⟨b, off, none⟩) n cap, dueV] 125)
  have x0 := cell_of_block HB 0
  have x1 := cell_of_block HB 1
  have i0 := (hb0.cell (p := ⟨b, off + i * 2, none⟩) hl).trans (hc i hi).1
  have i1 := (hb0.cell (p := ⟨b, off + i * 2 + 1, none⟩) hl).trans (hc i hi).2
  have j0 := (hb0.cell (p := ⟨b, off + j * 2, none⟩) hl).trans (hc j hj).1
  have j1 := (hb0.cell (p := ⟨b, off + j * 2 + 1, none⟩) hl).trans (hc j hj).2
  have hs0 : w.heap.size < (w.alloc (.cells #[.slice (some ⟨b, off, none⟩) n cap, dueV] 125)).heap.size := by simp
  have hs1 : b < (w.alloc (.cells #[.slice (some ⟨b, off, none⟩) n cap, dueV] 125)).heap.size := Nat.lt_trans hl hs0
  have hii : (i : Int) < (n : Int) := by omega
  have hjj : (j : Int) < (n : Int) := by omega
  clear HB hc
  go_enter Tryz.func128, Tryz.ntmps128
  go_wp2_with fail
  go_region_held3 (fun w' => w'.cell? ⟨w.heap.size, 0, none⟩ = some (.slice (some ⟨b, off, none⟩) n cap) ∧ w'.cell? ⟨w.heap.size, 1, none⟩ = some dueV
      ∧ w'.cell? ⟨b, off + i * 2, none⟩ = some (.int .i64 (f i).1) ∧ w'.cell? ⟨b, off + i * 2 + 1, none⟩ = some (.int .i64 (f i).2)
      ∧ w'.cell? ⟨b, off + j * 2, none⟩ = some (.int .i64 (f j).1) ∧ w'.cell? ⟨b, off + j * 2 + 1, none⟩ = some (.int .i64 (f j).2))
    (first | exact ⟨x0, x1, i0, i1, j0, j1⟩ | exact ⟨y0, y1, y2, y3, y4, y5⟩ | go_keep)
    (first
      | (go_at_call 101; refine (dueBefore_any _ _ _ _ _).mono ?_; rintro e w1 ⟨rfl, hb⟩
         have y0 := (hb.cell (p := ⟨w.heap.size, 0, none⟩) hs0).trans x0; have y1 := (hb.cell (p := ⟨w.heap.size, 1, none⟩) hs0).trans x1
         have y2 := (hb.cell (p := ⟨b, off + i * 2, none⟩) hs1).trans i0; have y3 := (hb.cell (p := ⟨b, off + i * 2 + 1, none⟩) hs1).trans i1
         have y4 := (hb.cell (p := ⟨b, off + j * 2, none⟩) hs1).trans j0; have y5 := (hb.cell (p := ⟨b, off + j * 2 + 1, none⟩) hs1).trans j1))
  all_goals
    go_wp2
    go_ret
    exact ⟨rfl, hb0.drew.trans (hb.mono hb0.drew.size)⟩

set_option maxRecDepth 100000 in
set_option maxHeartbeats 1000000 in
theorem hSwap_any {B g n cap : Nat} {f : Slots} {i j : Nat} {w : World} (hn : n ≤ 1048577) (hi : i < n) (hj : j < n) (hij : i ≠ j) (h : OwnAt w B g n cap f) :
    Calls Tryz.prog 130 #[heapV (.slice (some ⟨g, 0, none⟩) n cap), .int .i64 i, .int .i64 j] w fun e w' => e = .returned (.tuple #[]) ∧ OwnAt w' B g n cap (swapF f i j) ∧ w.grownBy w' (some g) := by
  have hO := h.alloc (.cells #[.slice (some ⟨g, 0, none⟩) n cap, dueV] 125)
  have hl := h.lt
  have HB := heap_alloc_new w (.cells #[.slice (some ⟨g, 0, none⟩) n cap, dueV] 125)
  have x0 := cell_of_block HB 0
  have x1 := cell_of_block HB 1
  obtain ⟨i0, i1⟩ := hO.cells hi
  obtain ⟨j0, j1⟩ := hO.cells hj
  have f0 := hO.free (i * 2)
  have f1 := hO.free (i * 2 + 1)
  have f2 := hO.free (j * 2)
  have f3 := hO.free (j * 2 + 1)
  have hlt := hO.lt
  have hii : (i : Int) < (n : Int) := by omega
  have hjj : (j : Int) < (n : Int) := by omega
  have hR := ((hO.put hi (f j).1 (f j).2).put hj (f i).1 (f i).2)
  have hg0 := g_alloc (g_refl w (some g)) (.cells #[.slice (some ⟨g, 0, none⟩) n cap, dueV] 125)
  clear HB h
  go_enter Tryz.func130, Tryz.ntmps130
  go_wp2_with fail
  generalize w.alloc (.cells #[.slice (some ⟨g, 0, none⟩) n cap, dueV] 125) = wq at *
  go_region
  all_goals
    go_wp2
    go_end0
    exact ⟨rfl, hR.drew, g_drew (g_own (g_own (g_own (g_own hg0 _ _) _ _) _ _) _ _)⟩

end Go.Proofs.YtonpbmeekgdilaaGreat

/-
  The model's two sifts (spec, chapter 2): what each makes of a list.
-/
namespace Go.Proofs.YtonpbmeekgdilaaGreat
open Go.RowKit Go.Joins
set_option linter.unusedVariables false

theorem raisedF_has {f : Slots} {n : Nat} {i : Int} (h : hasB n i = true) : raisedF f n i = raiseF f i.toNat := by simp [raisedF, h]
theorem raisedF_no {f : Slots} {n : Nat} {i : Int} (h : hasB n i = false) : raisedF f n i = f := by simp [raisedF, h]
theorem sunkF_has {f : Slots} {n : Nat} {i : Int} (h : hasB n i = true) : sunkF f n i = sinkF f n i.toNat := by simp [sunkF, h]
theorem sunkF_no {f : Slots} {n : Nat} {i : Int} (h : hasB n i = false) : sunkF f n i = f := by simp [sunkF, h]

set_option maxHeartbeats 1000000 in
theorem spRaised_any {v : Value} {n : Nat} {f : Slots} (i : Int) {w : World} (hn : n ≤ 1048576) (h : RowAt w v n f) :
    Calls Tryz.prog 92 #[v, .int .i64 i] w (NewRow n (raisedF f n i) w) := by
  have HR := Lib.hid h
  clear h
  cases hi : hasB n i
  · rw [raisedF_no hi]
    go_enter Tryz.func92, Tryz.ntmps92
    go_wp2_with fail
    go_at_call 77; refine (l2Copy_any hn HR.out).mono ?_; rintro e w1 ⟨v1, rfl, hO, hb⟩
    go_wp2_with fail
    go_at_call 104; refine (l2Has_any f i hn (HR.out.below hb)).mono ?_; rintro e w' ⟨rfl, rfl⟩
    go_wp2
    go_ret
    exact ⟨v1, rfl, hO, hb⟩
  · obtain ⟨i0, i1⟩ := hasB_iff.1 hi
    rw [raisedF_has hi]
    obtain ⟨k0, rfl⟩ : ∃ k0 : Nat, i = k0 := ⟨i.toNat, by omega⟩
    rw [Int.toNat_natCast]
    go_enter Tryz.func92, Tryz.ntmps92
    go_wp2_with fail
    go_at_call 77; refine (l2Copy_any hn HR.out).mono ?_; rintro e w1 ⟨v1, rfl, hO, hb⟩
    go_wp2_with fail
    go_at_call 104; refine (l2Has_any f _ hn (HR.out.below hb)).mono ?_; rintro e w' ⟨rfl, rfl⟩
    rcases hO with ⟨rfl, _⟩ | ⟨g, cap, rfl, hO⟩
    · omega
    go_wp2
    go_loopw [1] (fun i wr => ∃ (k : Nat) (f' : Slots), k < n ∧ i = .int .i64 k ∧ OwnAt wr w.heap.size g n cap f' ∧ Below w.heap.size w wr ∧ Hid (raiseF f k0 = raiseF f' k)) (fun i _ => (intOf i).toNat)
    case atStart => exact ⟨k0, f, by omega, rfl, hO, hb, Lib.hid rfl⟩
    case round =>
      obtain ⟨k, f', hk, rfl, hOk, hbk, hf⟩ := hrel
      obtain ⟨c0, c1⟩ := hOk.cells hk
      obtain ⟨p0, p1⟩ := hOk.cells (show (k - 1) / 4 < n by omega)
      have hlt := hOk.lt
      have b2 : (k : Int) < (n : Int) := by omega
      cases hup : upB f' k
      · have hfk := Lib.hid (hf.out.trans (raiseF_stop hup))
        clear hf
        by_cases hz : k = 0
        · subst hz
          clear hup
          go_wp2
          go_quiet (fail)
          go_wp2
          go_ret
          exact ⟨_, rfl, by rw [hfk.out]; exact hOk.own, b_drewN hbk _⟩
        · have hk0 : (0 : Int) < (k : Int) := by omega
          have hd0 : decide (0 < k) = true := by simp; omega
          have e1 : IntKind.i64.wrap ((k : Int) - 1) = ((k - 1 : Nat) : Int) := by rw [IntKind.wrap_i64]; omega
          have e2 : ((k - 1 : Nat) : Int).tdiv 4 = ((k - 1) / 4 : Nat) := by rw [Int.tdiv_eq_ediv_of_nonneg (by omega)]; omega
          have b1 : (((k - 1) / 4 : Nat) : Int) < (n : Int) := by omega
          have hd : decide ((f' k).2 < (f' ((k - 1) / 4)).2) = false := by
            simp only [upB, Bool.and_eq_false_iff, decide_eq_false_iff_not] at hup
            simp only [decide_eq_false_iff_not]
            omega
          clear hup hz
          go_wp2
          go_quiet (fail)
          clear e1 e2
          go_wp2
          go_ret
          exact ⟨_, rfl, by rw [hfk.out]; exact hOk.own, b_drewN hbk _⟩
      · have hfk := Lib.hid (hf.out.trans (raiseF_up hup))
        clear hf
        have hk0 : (0 : Int) < (k : Int) := by simp [upB] at hup; omega
        have hd0 : decide (0 < k) = true := by simp; omega
        have hd : decide ((f' k).2 < (f' ((k - 1) / 4)).2) = true := by simp only [upB, Bool.and_eq_true] at hup; exact hup.2
        have e1 : IntKind.i64.wrap ((k : Int) - 1) = ((k - 1 : Nat) : Int) := by rw [IntKind.wrap_i64]; omega
        have e2 : ((k - 1 : Nat) : Int).tdiv 4 = ((k - 1) / 4 : Nat) := by rw [Int.tdiv_eq_ediv_of_nonneg (by omega)]; omega
        have b1 : (((k - 1) / 4 : Nat) : Int) < (n : Int) := by omega
        clear hup
        go_wp2
        go_quiet (fail)
        generalize hq : World.drewN wr _ = wq
        have hOq : OwnAt wq w.heap.size g n cap f' := hq ▸ hOk.drewN _
        have hbq : Below w.heap.size w wq := hq ▸ b_drewN hbk _
        clear hq c0 c1 p0 p1 hlt hOk hbk
        obtain ⟨c0, c1⟩ := hOq.cells hk
        obtain ⟨p0, p1⟩ := hOq.cells (show (k - 1) / 4 < n by omega)
        have hlt := hOq.lt
        have fr := hOq.free
        have f0 := fr (k * 2)
        have f1 := fr (k * 2 + 1)
        have f2 := fr ((k - 1) / 4 * 2)
        have f3 := fr ((k - 1) / 4 * 2 + 1)
        clear fr
        clear e1 e2
        have hg := hOq.1
        have hqn : (k - 1) / 4 < n := by omega
        go_wp2
        exact ⟨⟨(k - 1) / 4, swapF f' k ((k - 1) / 4), hqn, congrArg (Value.int .i64) (by omega), ((hOq.put hk _ _).put hqn _ _).alloc _,
          ((((hbq.setCell (p := ⟨g, k * 2, none⟩) hg _).setCell (p := ⟨g, k * 2 + 1, none⟩) hg _).setCell (p := ⟨g, (k - 1) / 4 * 2, none⟩) hg _).setCell (p := ⟨g, (k - 1) / 4 * 2 + 1, none⟩) hg _).alloc (by simpa using hbq.size) _, hfk⟩,
          by simp only [intOf]; omega⟩

set_option maxRecDepth 100000 in
set_option maxHeartbeats 1000000 in
theorem spSunk_any {v : Value} {n : Nat} {f : Slots} (i : Int) {w : World} (hn : n ≤ 1048576) (h : RowAt w v n f) :
    Calls Tryz.prog 105 #[v, .int .i64 i] w (NewRow n (sunkF f n i) w) := by
  have HR := Lib.hid h
  clear h
  cases hi : hasB n i
  · rw [sunkF_no hi]
    go_enter Tryz.func105, Tryz.ntmps105
    go_wp2_with fail
    go_at_call 77; refine (l2Copy_any hn HR.out).mono ?_; rintro e w1 ⟨v1, rfl, hO, hb⟩
    go_wp2_with fail
    go_at_call 104; refine (l2Has_any f i hn (HR.out.below hb)).mono ?_; rintro e w' ⟨rfl, rfl⟩
    go_wp2
    go_ret
    exact ⟨v1, rfl, hO, hb⟩
  · obtain ⟨i0, i1⟩ := hasB_iff.1 hi
    rw [sunkF_has hi]
    obtain ⟨k0, rfl⟩ : ∃ k0 : Nat, i = k0 := ⟨i.toNat, by omega⟩
    rw [Int.toNat_natCast]
    go_enter Tryz.func105, Tryz.ntmps105
    go_wp2_with fail
    go_at_call 77; refine (l2Copy_any hn HR.out).mono ?_; rintro e w1 ⟨v1, rfl, hO, hb⟩
    go_wp2_with fail
    go_at_call 104; refine (l2Has_any f _ hn (HR.out.below hb)).mono ?_; rintro e w' ⟨rfl, rfl⟩
    rcases hO with ⟨rfl, _⟩ | ⟨g, cap, rfl, hO⟩
    · omega
    go_wp2
    go_loopw [1] (fun i wr => ∃ (k : Nat) (f' : Slots), k < n ∧ i = .int .i64 k ∧ OwnAt wr w.heap.size g n cap f' ∧ Below w.heap.size w wr ∧ Hid (sinkF f n k0 = sinkF f' n k)) (fun i _ => n - (intOf i).toNat)
    case atStart => exact ⟨k0, f, by omega, rfl, hO, hb, Lib.hid rfl⟩
    case round =>
      obtain ⟨k, f', hk, rfl, hOk, hbk, hf⟩ := hrel
      obtain ⟨wo, rfl⟩ : ∃ wo : World, wo = wr := ⟨_, rfl⟩
      clear hO hb
      have hkm : (k : Int) < 1048576 := by omega
      have hnm : (n : Int) ≤ 1048576 := by omega
      go_wp2
      go_loopw [6, 7] (fun b kk wi => ∃ (bb j : Nat), b = .int .i64 bb ∧ kk = .int .i64 j ∧ bb < n ∧ 4 * k + 1 ≤ j ∧ j ≤ 4 * k + 5 ∧ OwnAt wi w.heap.size g n cap f' ∧ Below w.heap.size w wi ∧ Hid (bestF f' n k = bestG f' n (4 * k + 5 - j) j bb)) (fun _ kk _ => 4 * k + 5 - (intOf kk).toNat)
      case atStart => exact ⟨k, 4 * k + 1, rfl, congrArg (Value.int .i64) (by omega), hk, Nat.le_refl _, by omega, hOk, hbk, Lib.hid (by rw [show 4 * k + 5 - (4 * k + 1) = 4 by omega]; rfl)⟩
      case round =>
        obtain ⟨bb, j, rfl, rfl, hbb, hj1, hj2, hOi, hbi, hbest⟩ := hrel
        by_cases hc : j ≤ 4 * k + 4 ∧ j < n
        · obtain ⟨hc1, hc2⟩ := hc
          obtain ⟨_, cj⟩ := hOi.cells hc2
          obtain ⟨_, cb⟩ := hOi.cells hbb
          have h1 : (j : Int) ≤ 4 * (k : Int) + 4 := by omega
          have h2 : (j : Int) < (n : Int) := by omega
          have h3 : (bb : Int) < (n : Int) := by omega
          have hstep := hbest.out.trans ((congrArg (fun c => bestG f' n c j bb) (show 4 * k + 5 - j = (4 * k + 5 - (j + 1)) + 1 by omega)).trans (bestG_step hc2 _ _))
          clear hbest
          by_cases hlo : (f' j).2 < (f' bb).2
          · rw [if_pos hlo] at hstep
            have hS := Lib.hid hstep
            have hd : decide ((f' j).2 < (f' bb).2) = true := by simpa using hlo
            clear hstep hlo
            go_wp2
            go_quiet (fail)
            go_wp2
            exact ⟨⟨j, j + 1, rfl, by go_num, hc2, by omega, by omega, hOi.drewN _, b_drewN hbi _, hS⟩, by simp only [intOf]; omega⟩
          · rw [if_neg hlo] at hstep
            have hS := Lib.hid hstep
            have hd : decide ((f' j).2 < (f' bb).2) = false := by simpa using hlo
            clear hstep hlo
            go_wp2
            go_quiet (fail)
            go_wp2
            exact ⟨⟨bb, j + 1, rfl, by go_num, hbb, by omega, by omega, hOi.drewN _, b_drewN hbi _, hS⟩, by simp only [intOf]; omega⟩
        · have hB := Lib.hid (show bestF f' n k = bb by
            rw [hbest.out]
            by_cases hj : j < n
            · have : 4 * k + 5 - j = 0 := by omega
              rw [this]; rfl
            · exact bestG_out hj _ _)
          clear hbest
          by_cases hj4 : j ≤ 4 * k + 4
          · have h1 : (j : Int) ≤ 4 * (k : Int) + 4 := by omega
            have h2 : ¬ (j : Int) < (n : Int) := by omega
            have hd2 : decide (j < n) = false := by simp; omega
            by_cases hbk2 : bb = k
            · subst hbk2
              have hres := Lib.hid (hf.out.trans (sinkF_stop hB.out))
              clear hf hB
              go_wp2
              go_ret
              exact ⟨_, rfl, by rw [hres.out]; exact hOi.own, hbi⟩
            · have hne : bestF f' n k ≠ k := by rw [hB.out]; exact hbk2
              have hgt : k < bb := by have := bestF_ge f' n k; rw [hB.out] at this; omega
              have hres := hf.out.trans (sinkF_down hk hne)
              rw [hB.out] at hres
              have hS := Lib.hid hres
              have hq : ((bb : Int) == (k : Int)) = false := by rw [beq_eq_false_iff_ne]; omega
              have h3 : (bb : Int) < (n : Int) := by omega
              have h4 : (k : Int) < (n : Int) := by omega
              clear hres hf hB hne
              obtain ⟨c0, c1⟩ := hOi.cells hk
              obtain ⟨p0, p1⟩ := hOi.cells hbb
              have hlt := hOi.lt
              have fr := hOi.free
              have f0 := fr (k * 2)
              have f1 := fr (k * 2 + 1)
              have f2 := fr (bb * 2)
              have f3 := fr (bb * 2 + 1)
              have hg := hOi.1
              clear fr
              go_wp2
              exact ⟨⟨bb, swapF f' k bb, hbb, rfl, ((hOi.put hk _ _).put hbb _ _).alloc _,
                ((((hbi.setCell (p := ⟨g, k * 2, none⟩) hg _).setCell (p := ⟨g, k * 2 + 1, none⟩) hg _).setCell (p := ⟨g, bb * 2, none⟩) hg _).setCell (p := ⟨g, bb * 2 + 1, none⟩) hg _).alloc (by simpa using hbi.size) _, hS⟩,
                by simp only [intOf]; omega⟩
          · have h1 : ¬ (j : Int) ≤ 4 * (k : Int) + 4 := by omega
            have hd1 : decide ((j : Int) ≤ 4 * (k : Int) + 4) = false := by simpa using h1
            by_cases hbk2 : bb = k
            · subst hbk2
              have hres := Lib.hid (hf.out.trans (sinkF_stop hB.out))
              clear hf hB
              go_wp2
              go_ret
              exact ⟨_, rfl, by rw [hres.out]; exact hOi.own, hbi⟩
            · have hne : bestF f' n k ≠ k := by rw [hB.out]; exact hbk2
              have hgt : k < bb := by have := bestF_ge f' n k; rw [hB.out] at this; omega
              have hres := hf.out.trans (sinkF_down hk hne)
              rw [hB.out] at hres
              have hS := Lib.hid hres
              have hq : ((bb : Int) == (k : Int)) = false := by rw [beq_eq_false_iff_ne]; omega
              have h3 : (bb : Int) < (n : Int) := by omega
              have h4 : (k : Int) < (n : Int) := by omega
              clear hres hf hB hne
              obtain ⟨c0, c1⟩ := hOi.cells hk
              obtain ⟨p0, p1⟩ := hOi.cells hbb
              have hlt := hOi.lt
              have fr := hOi.free
              have f0 := fr (k * 2)
              have f1 := fr (k * 2 + 1)
              have f2 := fr (bb * 2)
              have f3 := fr (bb * 2 + 1)
              have hg := hOi.1
              clear fr
              go_wp2
              exact ⟨⟨bb, swapF f' k bb, hbb, rfl, ((hOi.put hk _ _).put hbb _ _).alloc _,
                ((((hbi.setCell (p := ⟨g, k * 2, none⟩) hg _).setCell (p := ⟨g, k * 2 + 1, none⟩) hg _).setCell (p := ⟨g, bb * 2, none⟩) hg _).setCell (p := ⟨g, bb * 2 + 1, none⟩) hg _).alloc (by simpa using hbi.size) _, hS⟩,
                by simp only [intOf]; omega⟩

end Go.Proofs.YtonpbmeekgdilaaGreat

/-
  The model's PushedOn and PulledOff (spec, chapter 2).
-/
namespace Go.Proofs.YtonpbmeekgdilaaGreat
open Go.RowKit Go.Joins
set_option linter.unusedVariables false

def pushedF (f : Slots) (n : Nat) (s : Int × Int) : Slots := if n < 30 then raiseF (putF f n s) n else f
def pushedN (n : Nat) : Nat := if n < 30 then n + 1 else n

/-- a call that makes a new list and says yes or no -/
def NewRowB (n : Nat) (f : Slots) (b : Bool) (w : World) (e : Ending) (w' : World) : Prop := ∃ v, e = .returned (.tuple #[v, .bool b]) ∧ OwnRow w' w.heap.size v n f ∧ Below w.heap.size w w'

set_option maxRecDepth 100000 in
set_option maxHeartbeats 1000000 in
theorem spPushed_in {v : Value} {n : Nat} {f : Slots} (a b : Int) {w : World} (hn : n < 30) (h : RowAt w v n f) :
    Calls Tryz.prog 76 #[v, .agg #[.int .i64 a, .int .i64 b]] w (NewRowB (n + 1) (raiseF (putF f n (a, b)) n) true w) := by
  have HR := Lib.hid h
  obtain ⟨va, vc, hv⟩ := h.form
  clear h
  have hn2 : (n : Int) < 30 := by omega
  subst hv
  go_enter Tryz.func76, Tryz.ntmps76
  go_wp2_with fail
  have c0 : (w.alloc (.cells #[.int .i64 a, .int .i64 b] 88)).drew.cell? ⟨w.heap.size, 0, none⟩ = some (.int .i64 a) := cell_of_block (heap_alloc_new w _) 0
  have c1 : (w.alloc (.cells #[.int .i64 a, .int .i64 b] 88)).drew.cell? ⟨w.heap.size, 1, none⟩ = some (.int .i64 b) := cell_of_block (heap_alloc_new w _) 1
  have kb := ((Below.refl w.heap.size w).alloc (Nat.le_refl _) (.cells #[.int .i64 a, .int .i64 b] 88)).drew
  have hs0 : w.heap.size < (w.alloc (.cells #[.int .i64 a, .int .i64 b] 88)).drew.heap.size := by simp
  have d0 : ((w.alloc (.cells #[.int .i64 a, .int .i64 b] 88)).alloc (.cells #[.int .i64 a, .int .i64 b] 88)).drew.cell? ⟨w.heap.size, 0, none⟩ = some (.int .i64 a) := (World.cell?_alloc_lt (w.alloc (.cells #[.int .i64 a, .int .i64 b] 88)) (.cells #[.int .i64 a, .int .i64 b] 88) ⟨w.heap.size, 0, none⟩ hs0).trans c0
  have d1 : ((w.alloc (.cells #[.int .i64 a, .int .i64 b] 88)).alloc (.cells #[.int .i64 a, .int .i64 b] 88)).drew.cell? ⟨w.heap.size, 1, none⟩ = some (.int .i64 b) := (World.cell?_alloc_lt (w.alloc (.cells #[.int .i64 a, .int .i64 b] 88)) (.cells #[.int .i64 a, .int .i64 b] 88) ⟨w.heap.size, 1, none⟩ hs0).trans c1
  have ds : w.heap.size < ((w.alloc (.cells #[.int .i64 a, .int .i64 b] 88)).alloc (.cells #[.int .i64 a, .int .i64 b] 88)).drew.heap.size := by simp; omega
  have kd := (((Below.refl w.heap.size w).alloc (Nat.le_refl _) (.cells #[.int .i64 a, .int .i64 b] 88)).alloc (by simp) (.cells #[.int .i64 a, .int .i64 b] 88)).drew
  have dr : RowAt ((w.alloc (.cells #[.int .i64 a, .int .i64 b] 88)).alloc (.cells #[.int .i64 a, .int .i64 b] 88)).drew (.slice (some ⟨w.heap.size + 1, 0, none⟩) 1 1) 1 (fun _ => (a, b)) := by
    have := one_row (w.alloc (.cells #[.int .i64 a, .int .i64 b] 88)) a b
    rw [show (w.alloc (.cells #[.int .i64 a, .int .i64 b] 88)).heap.size = w.heap.size + 1 by simp] at this
    exact this
  go_region_held3 (fun w' => w'.cell? ⟨w.heap.size, 0, none⟩ = some (.int .i64 a) ∧ w'.cell? ⟨w.heap.size, 1, none⟩ = some (.int .i64 b))
    (first | exact ⟨c0, c1⟩ | exact ⟨d0, d1⟩ | exact ⟨cA0, cA1⟩ | go_keep)
    (first
      | (go_at_call 77; refine (l2Copy_any (by omega) (HR.out.below kb)).mono ?_; rintro e w1 ⟨v1, rfl, hO, hb1⟩
         replace c0 := (hb1.cell (p := ⟨w.heap.size, 0, none⟩) hs0).trans c0; replace c1 := (hb1.cell (p := ⟨w.heap.size, 1, none⟩) hs0).trans c1
         replace kb := kb.trans (hb1.mono (Nat.le_of_lt hs0)); have hsA := Nat.lt_of_lt_of_le hs0 hb1.size; have hBA := Nat.le_trans hb1.size (show w1.heap.size ≤ (w1.alloc (.cells #[.int .i64 a, .int .i64 b] 88)).heap.size by simp)
         have cA0 := (World.cell?_alloc_lt w1 (.cells #[.int .i64 a, .int .i64 b] 88) ⟨w.heap.size, 0, none⟩ hsA).trans c0; have cA1 := (World.cell?_alloc_lt w1 (.cells #[.int .i64 a, .int .i64 b] 88) ⟨w.heap.size, 1, none⟩ hsA).trans c1
         have kA := kb.alloc (Nat.le_of_lt hsA) (.cells #[.int .i64 a, .int .i64 b] 88); have hOA := hO.alloc (.cells #[.int .i64 a, .int .i64 b] 88); have hsrcA := one_row w1 a b; clear d0 d1 ds kd dr)
      | (go_at_call 77; refine (l2Copy_any (by omega) (HR.out.below kd)).mono ?_; rintro e w1 ⟨v1, rfl, hO, hb1⟩
         replace d0 := (hb1.cell (p := ⟨w.heap.size, 0, none⟩) ds).trans d0; replace d1 := (hb1.cell (p := ⟨w.heap.size, 1, none⟩) ds).trans d1
         replace kd := kd.trans (hb1.mono (Nat.le_of_lt ds)); have hsrcD := dr.below hb1; have hBD := hb1.size)
      | (refine step_append_slots rfl (.tmp 12) (.tmp 14) rfl _ v1 n f rfl (row_of_ownrow hOA) _ 1 (fun _ => (a, b)) rfl hsrcA (by omega) hBA ?_; intro v2 w2 hown2 hg2 hat2
         have hb2 := hOA.below_own hg2 hBA; have c0' := (hb2.cell (p := ⟨w.heap.size, 0, none⟩) hs0).trans cA0; have c1' := (hb2.cell (p := ⟨w.heap.size, 1, none⟩) hs0).trans cA1; clear c0 c1
         rw [cellsF_push] at hown2; have hO2 := own_of_row hown2; have k2 := kA.trans (hb2.mono (Nat.le_of_lt hs0)); have c0 := c0'; have c1 := c1'; clear hOA hsrcA kA kb cA0 cA1)
      | (refine step_append_slots rfl (.tmp 12) (.tmp 14) rfl _ v1 n f rfl (row_of_ownrow hO) _ 1 (fun _ => (a, b)) rfl hsrcD (by omega) hBD ?_; intro v2 w2 hown2 hg2 hat2
         have hb2 := hO.below_own hg2 hBD; have c0' := (hb2.cell (p := ⟨w.heap.size, 0, none⟩) ds).trans d0; have c1' := (hb2.cell (p := ⟨w.heap.size, 1, none⟩) ds).trans d1; clear c0 c1
         rw [cellsF_push] at hown2; have hO2 := own_of_row hown2; have k2 := kd.trans (hb2.mono (Nat.le_of_lt ds)); have c0 := c0'; have c1 := c1'; clear hO hsrcD kd kb d0 d1)
      | (go_at_call 92; refine (spRaised_any _ (by omega) hO2.row).mono ?_; rintro e w3 ⟨v3, rfl, hO3, hb3⟩; have hl2 := World.block_lt_of_cell? w2 _ c0; replace c0 := (hb3.cell (p := ⟨w.heap.size, 0, none⟩) hl2).trans c0; replace c1 := (hb3.cell (p := ⟨w.heap.size, 1, none⟩) hl2).trans c1; have k3 := k2.trans (hb3.mono k2.size); have hO4 := hO3.mono k2.size))
  all_goals
    clear HR
    go_wp2
    go_ret2
    exact ⟨v3, rfl, by rw [raisedF_has (hasB_iff.2 ⟨by omega, by omega⟩), Int.toNat_natCast] at hO4; exact hO4, k3⟩

set_option maxHeartbeats 400000 in
theorem spPushed_out {v : Value} {n : Nat} {f : Slots} (a b : Int) {w : World} (hn : 30 ≤ n) (hn1 : n ≤ 1048576) (h : RowAt w v n f) :
    Calls Tryz.prog 76 #[v, .agg #[.int .i64 a, .int .i64 b]] w (NewRowB n f false w) := by
  have HR := Lib.hid h
  obtain ⟨va, vc, hv⟩ := h.form
  clear h
  have hn2 : (30 : Int) ≤ (n : Int) := by omega
  subst hv
  have kb := (Below.refl w.heap.size w).alloc (Nat.le_refl _) (.cells #[.int .i64 a, .int .i64 b] 88)
  go_enter Tryz.func76, Tryz.ntmps76
  go_wp2_with fail
  go_at_call 77; refine (l2Copy_any hn1 (HR.out.below kb)).mono ?_; rintro e w1 ⟨v1, rfl, hO, hb1⟩
  have k1 := kb.trans (hb1.mono kb.size)
  have hO1 := hO.mono kb.size
  clear HR hO hb1 kb
  go_wp2
  go_ret2
  exact ⟨v1, rfl, hO1, k1⟩

theorem spPushed_any {v : Value} {n : Nat} {f : Slots} (a b : Int) {w : World} (hn : n ≤ 1048576) (h : RowAt w v n f) :
    Calls Tryz.prog 76 #[v, .agg #[.int .i64 a, .int .i64 b]] w (NewRowB (pushedN n) (pushedF f n (a, b)) (decide (n < 30)) w) := by
  by_cases h30 : n < 30
  · rw [pushedN, if_pos h30, pushedF, if_pos h30, decide_eq_true h30]
    exact spPushed_in a b h30 h
  · rw [pushedN, if_neg h30, pushedF, if_neg h30, decide_eq_false h30]
    exact spPushed_out a b (by omega) hn h

/-! ### PulledOff -/
def pulledF (f : Slots) (n : Nat) (i : Int) : Slots :=
  if hasB n i then (if i < (n : Int) - 1 then sunkF (raisedF (putF f i.toNat (f (n - 1))) (n - 1) i) (n - 1) i else f) else f
def pulledN (n : Nat) (i : Int) : Nat := if hasB n i then n - 1 else n
def pulledS (f : Slots) (n : Nat) (i : Int) : Int × Int := if hasB n i then f i.toNat else (0, 0)

theorem pulledF_mid {f : Slots} {n k : Nat} (h : k < n - 1) : pulledF f n (k : Int) = sunkF (raisedF (putF f k (f (n - 1))) (n - 1) k) (n - 1) k := by
  rw [pulledF, if_pos (hasB_iff.2 ⟨by omega, by omega⟩), if_pos (by omega), Int.toNat_natCast]
theorem pulledF_last {f : Slots} {n k : Nat} (hk : k < n) (h : ¬ k < n - 1) : pulledF f n (k : Int) = f := by
  rw [pulledF, if_pos (hasB_iff.2 ⟨by omega, by omega⟩), if_neg (by omega)]
/-- a call that makes a new list, hands a slot back and says yes or no -/
def NewRowS (n : Nat) (f : Slots) (s : Int × Int) (b : Bool) (w : World) (e : Ending) (w' : World) : Prop := ∃ v, e = .returned (.tuple #[v, .agg #[.int .i64 s.1, .int .i64 s.2], .bool b]) ∧ OwnRow w' w.heap.size v n f ∧ Below w.heap.size w w'

set_option maxHeartbeats 400000 in
theorem spPulled_out {v : Value} {n : Nat} {f : Slots} (i : Int) {w : World} (hn : n ≤ 1048576) (hi : hasB n i = false) (h : RowAt w v n f) :
    Calls Tryz.prog 85 #[v, .int .i64 i] w (NewRowS n f (0, 0) false w) := by
  have HR := Lib.hid h
  clear h
  have kb := (Below.refl w.heap.size w).alloc (Nat.le_refl _) (.cells #[.int .i64 0, .int .i64 0] 88)
  have hs0 : w.heap.size < (w.alloc (.cells #[.int .i64 0, .int .i64 0] 88)).heap.size := by simp
  have hB := heap_alloc_new w (.cells #[.int .i64 0, .int .i64 0] 88)
  have HB := Lib.hid hB
  clear hB
  go_enter Tryz.func85, Tryz.ntmps85
  go_wp2_with fail
  go_at_call 77; refine (l2Copy_any hn (HR.out.below kb)).mono ?_; rintro e w1 ⟨v1, rfl, hO, hb1⟩
  have k1 := kb.trans (hb1.mono kb.size)
  go_wp2_with fail
  go_at_call 104; refine (l2Has_any f i hn (HR.out.below k1)).mono ?_; rintro e w' ⟨rfl, rfl⟩
  have hB1 := (hb1.block w.heap.size hs0).trans HB.out
  have c0 : w1.cell? ⟨w.heap.size, 0, none⟩ = some (.int .i64 0) := cell_of_block hB1 0
  have c1 : w1.cell? ⟨w.heap.size, 1, none⟩ = some (.int .i64 0) := cell_of_block hB1 1
  have f0 := unfrozen_of_block hB1 0
  have f1 := unfrozen_of_block hB1 1
  have hO1 := ((hO.set hs0 0 (.int .i64 0)).set hs0 1 (.int .i64 0)).mono kb.size
  clear hB1 HR hO hb1 kb
  go_wp2
  exact bodyPost_ret (v := .tuple #[v1, .agg #[.int .i64 0, .int .i64 0], .bool false]) (by simp [results, Tryz.results85, go_sem, c0, c1]) rfl
    ⟨v1, rfl, hO1, (k1.setCell (p := ⟨w.heap.size, 0, none⟩) (Nat.le_refl _) _).setCell (p := ⟨w.heap.size, 1, none⟩) (Nat.le_refl _) _⟩

set_option maxHeartbeats 1000000 in
theorem spPulled_in {v : Value} {n : Nat} {f : Slots} (k : Nat) {w : World} (hn : n ≤ 1048576) (hk : k < n) (h : RowAt w v n f) :
    Calls Tryz.prog 85 #[v, .int .i64 (k : Int)] w (NewRowS (n - 1) (pulledF f n k) (f k) true w) := by
  have HR := Lib.hid h
  clear h
  have hi : hasB n (k : Int) = true := hasB_iff.2 ⟨by omega, by omega⟩
  have kb := (Below.refl w.heap.size w).alloc (Nat.le_refl _) (.cells #[.int .i64 0, .int .i64 0] 88)
  have hs0 : w.heap.size < (w.alloc (.cells #[.int .i64 0, .int .i64 0] 88)).heap.size := by simp
  have HB := Lib.hid (heap_alloc_new w (.cells #[.int .i64 0, .int .i64 0] 88))
  go_enter Tryz.func85, Tryz.ntmps85
  go_wp2_with fail
  go_at_call 77; refine (l2Copy_any hn (HR.out.below kb)).mono ?_; rintro e w1 ⟨v1, rfl, hO, hb1⟩
  have k1 := kb.trans (hb1.mono kb.size)
  go_wp2_with fail
  go_at_call 104; refine (l2Has_any f _ hn (HR.out.below k1)).mono ?_; rintro e w' ⟨rfl, rfl⟩
  rcases hO with ⟨rfl, _⟩ | ⟨g, cap, rfl, hO⟩
  · omega
  have HB1 := Lib.hid ((hb1.block w.heap.size hs0).trans HB.out)
  have hs1 := Nat.lt_of_lt_of_le hs0 hb1.size
  have hg0 : w.heap.size < g := Nat.lt_of_lt_of_le hs0 hO.1
  clear HR HB hb1 kb hs0
  have hcap := hO.2.1
  have hcap1 : n ≤ cap + 1 := by omega
  obtain ⟨c0, c1⟩ := hO.cells hk
  obtain ⟨p0, p1⟩ := hO.cells (show n - 1 < n by omega)
  have hlt := hO.lt
  have fr := hO.free
  have f0 := fr (k * 2)
  have f1 := fr (k * 2 + 1)
  have e1 : IntKind.i64.wrap ((n : Int) - 1) = ((n - 1 : Nat) : Int) := by rw [IntKind.wrap_i64]; omega
  have b0 : (k : Int) < (n : Int) := by omega
  have b1 : ((n : Int) - 1) < (n : Int) := by omega
  have b2 : (0 : Int) ≤ (n : Int) - 1 := by omega
  clear fr
  have hOW := (hO.put hk (f (n - 1)).1 (f (n - 1)).2).alloc (.cells #[.int .i64 (f k).1, .int .i64 (f k).2] 88)
  have hOc := hOW.cut (show n - 1 ≤ n by omega)
  have kW : Below w.heap.size w (((w1.setCell ⟨g, k * 2, none⟩ (.int .i64 (f (n - 1)).1)).setCell ⟨g, k * 2 + 1, none⟩ (.int .i64 (f (n - 1)).2)).alloc (.cells #[.int .i64 (f k).1, .int .i64 (f k).2] 88)) := ((k1.setCell (p := ⟨g, k * 2, none⟩) (Nat.le_of_lt hg0) _).setCell (p := ⟨g, k * 2 + 1, none⟩) (Nat.le_of_lt hg0) _).alloc (by simpa using k1.size) _
  have hRW := Lib.hid (alloc_block (.cells #[.int .i64 (f k).1, .int .i64 (f k).2] 88) (((Below.heap_setCell _ ⟨g, k * 2 + 1, none⟩ (.int .i64 (f (n - 1)).2) w.heap.size (Nat.ne_of_lt hg0)).trans ((Below.heap_setCell w1 ⟨g, k * 2, none⟩ (.int .i64 (f (n - 1)).1) w.heap.size (Nat.ne_of_lt hg0)).trans HB1.out))))
  have hXW : (((w1.setCell ⟨g, k * 2, none⟩ (.int .i64 (f (n - 1)).1)).setCell ⟨g, k * 2 + 1, none⟩ (.int .i64 (f (n - 1)).2)).alloc (.cells #[.int .i64 (f k).1, .int .i64 (f k).2] 88)).heap[w1.heap.size]? = some (.cells #[.int .i64 (f k).1, .int .i64 (f k).2] 88 (0, 0)) := by
    have := heap_alloc_new ((w1.setCell ⟨g, k * 2, none⟩ (.int .i64 (f (n - 1)).1)).setCell ⟨g, k * 2 + 1, none⟩ (.int .i64 (f (n - 1)).2)) (.cells #[.int .i64 (f k).1, .int .i64 (f k).2] 88)
    simpa using this
  have HXW := Lib.hid hXW
  have hsX : w1.heap.size < (((w1.setCell ⟨g, k * 2, none⟩ (.int .i64 (f (n - 1)).1)).setCell ⟨g, k * 2 + 1, none⟩ (.int .i64 (f (n - 1)).2)).alloc (.cells #[.int .i64 (f k).1, .int .i64 (f k).2] 88)).heap.size := by simp
  clear hOW hXW HB1
  by_cases hlast : k < n - 1
  · have hq : (k : Int) < ((n - 1 : Nat) : Int) := by omega
    go_wp2_with fail
    go_at_call 92; refine (spRaised_any (k : Int) (show n - 1 ≤ 1048576 by omega) hOc.row).mono ?_; rintro e w3 ⟨v3, rfl, hO3, hb3⟩
    have HR3 := Lib.hid (b_block hb3 hRW.out (Nat.lt_trans hs1 hsX))
    have HX3 := Lib.hid (b_block hb3 HXW.out hsX)
    have k3 := kW.trans (hb3.mono kW.size)
    have hs3 := Nat.lt_of_lt_of_le hsX hb3.size
    clear hOc kW hRW HXW hsX hb3 c0 c1 p0 p1 f0 f1 hlt hO k1
    go_wp2_with fail
    go_at_call 105; refine (spSunk_any (k : Int) (show n - 1 ≤ 1048576 by omega) hO3.row).mono ?_; rintro e w4 ⟨v4, rfl, hO4, hb4⟩
    have hR4 := b_block hb4 HR3.out (Nat.lt_trans hs1 hs3)
    have hX4 := b_block hb4 HX3.out hs3
    have k4 := k3.trans (hb4.mono k3.size)
    obtain ⟨r0, r1⟩ : w4.cell? ⟨w.heap.size, 0, none⟩ = some (.int .i64 0) ∧ w4.cell? ⟨w.heap.size, 1, none⟩ = some (.int .i64 0) := ⟨cell_of_block hR4 0, cell_of_block hR4 1⟩
    have g0 := unfrozen_of_block hR4 0
    have g1 := unfrozen_of_block hR4 1
    obtain ⟨x0, x1⟩ : w4.cell? ⟨w1.heap.size, 0, none⟩ = some (.int .i64 (f k).1) ∧ w4.cell? ⟨w1.heap.size, 1, none⟩ = some (.int .i64 (f k).2) := ⟨cell_of_block hX4 0, cell_of_block hX4 1⟩
    have hO5 := ((hO4.set (Nat.lt_trans hs1 hs3) 0 (.int .i64 (f k).1)).set (Nat.lt_trans hs1 hs3) 1 (.int .i64 (f k).2)).mono k3.size
    clear HR3 HX3 hb4 hO3 hO4 k3 hR4 hX4
    go_wp2
    go_region
    go_wp2
    exact bodyPost_ret (v := .tuple #[v4, .agg #[.int .i64 (f k).1, .int .i64 (f k).2], .bool true]) (by simp [results, Tryz.results85, go_sem, r0, r1]) rfl
      ⟨v4, rfl, by rw [pulledF_mid hlast]; exact hO5, ((k4.setCell (p := ⟨w.heap.size, 0, none⟩) (Nat.le_refl _) _).setCell (p := ⟨w.heap.size, 1, none⟩) (Nat.le_refl _) _).drew⟩
  · have hq : ¬ (k : Int) < ((n - 1 : Nat) : Int) := by omega
    obtain ⟨r0, r1⟩ : (((w1.setCell ⟨g, k * 2, none⟩ (.int .i64 (f (n - 1)).1)).setCell ⟨g, k * 2 + 1, none⟩ (.int .i64 (f (n - 1)).2)).alloc (.cells #[.int .i64 (f k).1, .int .i64 (f k).2] 88)).cell? ⟨w.heap.size, 0, none⟩ = some (.int .i64 0) ∧ (((w1.setCell ⟨g, k * 2, none⟩ (.int .i64 (f (n - 1)).1)).setCell ⟨g, k * 2 + 1, none⟩ (.int .i64 (f (n - 1)).2)).alloc (.cells #[.int .i64 (f k).1, .int .i64 (f k).2] 88)).cell? ⟨w.heap.size, 1, none⟩ = some (.int .i64 0) := ⟨cell_of_block hRW.out 0, cell_of_block hRW.out 1⟩
    have g0 := unfrozen_of_block hRW.out 0
    have g1 := unfrozen_of_block hRW.out 1
    obtain ⟨x0, x1⟩ : (((w1.setCell ⟨g, k * 2, none⟩ (.int .i64 (f (n - 1)).1)).setCell ⟨g, k * 2 + 1, none⟩ (.int .i64 (f (n - 1)).2)).alloc (.cells #[.int .i64 (f k).1, .int .i64 (f k).2] 88)).cell? ⟨w1.heap.size, 0, none⟩ = some (.int .i64 (f k).1) ∧ (((w1.setCell ⟨g, k * 2, none⟩ (.int .i64 (f (n - 1)).1)).setCell ⟨g, k * 2 + 1, none⟩ (.int .i64 (f (n - 1)).2)).alloc (.cells #[.int .i64 (f k).1, .int .i64 (f k).2] 88)).cell? ⟨w1.heap.size, 1, none⟩ = some (.int .i64 (f k).2) := ⟨cell_of_block HXW.out 0, cell_of_block HXW.out 1⟩
    have hO5 : OwnRow (((((w1.setCell ⟨g, k * 2, none⟩ (.int .i64 (f (n - 1)).1)).setCell ⟨g, k * 2 + 1, none⟩ (.int .i64 (f (n - 1)).2)).alloc (.cells #[.int .i64 (f k).1, .int .i64 (f k).2] 88)).setCell ⟨w.heap.size, 0, none⟩ (.int .i64 (f k).1)).setCell ⟨w.heap.size, 1, none⟩ (.int .i64 (f k).2)) w.heap.size (.slice (some ⟨g, 0, none⟩) (n - 1) cap) (n - 1) f := by
      have h1 : OwnRow (((w1.setCell ⟨g, k * 2, none⟩ (.int .i64 (f (n - 1)).1)).setCell ⟨g, k * 2 + 1, none⟩ (.int .i64 (f (n - 1)).2)).alloc (.cells #[.int .i64 (f k).1, .int .i64 (f k).2] 88)) (w.heap.size + 1) (.slice (some ⟨g, 0, none⟩) (n - 1) cap) (n - 1) f := ((hOc.mono (by simp)).congr (fun i hi => putF_other f _ (by omega))).own
      exact ((h1.set (Nat.lt_succ_self _) 0 _).set (Nat.lt_succ_self _) 1 _).mono (Nat.le_succ _)
    go_wp2
    clear hOc hRW HXW hsX c0 c1 p0 p1 f0 f1 hlt hO k1
    generalize (((w1.setCell ⟨g, k * 2, none⟩ (.int .i64 (f (n - 1)).1)).setCell ⟨g, k * 2 + 1, none⟩ (.int .i64 (f (n - 1)).2)).alloc (.cells #[.int .i64 (f k).1, .int .i64 (f k).2] 88)) = wq at r0 r1 g0 g1 x0 x1 hO5 kW ⊢
    go_region
    go_wp2
    exact bodyPost_ret (v := .tuple #[.slice (some ⟨g, 0, none⟩) (n - 1) cap, .agg #[.int .i64 (f k).1, .int .i64 (f k).2], .bool true]) (by simp [results, Tryz.results85, go_sem, r0, r1]) rfl
      ⟨.slice (some ⟨g, 0, none⟩) (n - 1) cap, rfl, by rw [pulledF_last hk hlast]; exact hO5, ((kW.setCell (p := ⟨w.heap.size, 0, none⟩) (Nat.le_refl _) _).setCell (p := ⟨w.heap.size, 1, none⟩) (Nat.le_refl _) _).drew⟩

theorem spPulled_any {v : Value} {n : Nat} {f : Slots} (i : Int) {w : World} (hn : n ≤ 1048576) (h : RowAt w v n f) :
    Calls Tryz.prog 85 #[v, .int .i64 i] w (NewRowS (pulledN n i) (pulledF f n i) (pulledS f n i) (hasB n i) w) := by
  cases hi : hasB n i
  · rw [pulledN, pulledF, pulledS, hi]
    exact spPulled_out i hn hi h
  · obtain ⟨i0, i1⟩ := hasB_iff.1 hi
    obtain ⟨k, rfl⟩ : ∃ k : Nat, i = k := ⟨i.toNat, by omega⟩
    rw [pulledN, pulledS, hi, if_pos rfl, if_pos rfl, Int.toNat_natCast]
    exact spPulled_in k hn (by omega) h

end Go.Proofs.YtonpbmeekgdilaaGreat

/-
  The exact laws on heaps, told what the program's own functions answer.
-/
namespace Go.Proofs.YtonpbmeekgdilaaGreat
open Go.RowKit Go.Joins
set_option linter.unusedVariables false

/-- what a sift of the program's is to answer -/
def Sifts (fn : FuncId) (M : Slots → Nat → Int → Slots) : Prop := ∀ (v : Value) (n : Nat) (f : Slots) (i : Int) (w : World), n ≤ 1048576 → RowAt w v n f → Calls Tryz.prog fn #[v, .int .i64 i] w (NewRow n (M f n i) w)
/-- the law's size test: too long -/
theorem big_n {n : Nat} (h : ¬ n ≤ 1048576) : (if (1048576 : Int) < (n : Int) then (-1 : Int) else 1048576 - (n : Int)) = -1 := if_pos (by omega)
theorem small_n {n : Nat} (h : n ≤ 1048576) : (if (1048576 : Int) < (n : Int) then (-1 : Int) else 1048576 - (n : Int)) = 1048576 - (n : Int) := if_neg (by omega)

/-! ### exRaised -/
/-! ### exSunk -/
/-- what a question of the program's is to answer -/
def AsksB (fn : FuncId) (M : Slots → Nat → Bool) : Prop := ∀ (v : Value) (n : Nat) (f : Slots) (w : World), n ≤ 1048576 → RowAt w v n f → Calls Tryz.prog fn #[v] w fun e w' => e = .returned (.bool (M f n)) ∧ Below w.heap.size w w'
def AsksI (fn : FuncId) (M : Slots → Nat → Int → Int) : Prop := ∀ (v : Value) (n : Nat) (f : Slots) (i : Int) (w : World), n ≤ 1048576 → RowAt w v n f → Calls Tryz.prog fn #[v, .int .i64 i] w fun e w' => e = .returned (.int .i64 (M f n i)) ∧ Below w.heap.size w w'
theorem spHeapOk_low {v : Value} {n : Nat} (f : Slots) {w : World} (hn : n ≤ 1048576) (h : RowAt w v n f) :
    Calls Tryz.prog 90 #[v] w fun e w' => e = .returned (.bool (heapB f n)) ∧ Below w.heap.size w w' :=
  (spHeapOk_any f hn h).mono fun e w' ⟨m, he, hw⟩ => ⟨he, by rw [hw]; exact b_drewN (Below.refl _ _) m⟩
def findM (f : Slots) (n : Nat) (i : Int) : Int := findFrom f n i 0
theorem spFindSlot_low {v : Value} {n : Nat} (f : Slots) (i : Int) {w : World} (hn : n ≤ 1048576) (h : RowAt w v n f) :
    Calls Tryz.prog 47 #[v, .int .i64 i] w fun e w' => e = .returned (.int .i64 (findM f n i)) ∧ Below w.heap.size w w' :=
  (spFindSlot_any f i hn h).mono fun e w' ⟨he, hw⟩ => ⟨he, by rw [← hw]; exact Below.refl _ _⟩

/-! ### exHeapOk -/
/-! ### exFindSlot -/
/-! ### exPulled: a list and a slot and a word, asked of one list and one number -/
theorem blk_step {w w' : World} {b : Nat} {o : Obj} (h : w.heap[b]? = some o) (hb : Below w.heap.size w w') : w'.heap[b]? = some o := b_block hb h (lt_of_block h)
theorem blk_kept {w w' : World} {b : Nat} {o : Obj} {ob : Option Nat} (h : w.heap[b]? = some o) (hg : w.grownBy w' ob) (hne : ∀ g, ob = some g → g ≠ b) : w'.heap[b]? = some o :=
  (hg.block b (lt_of_block h) (by intro e; exact hne b e.symm rfl)).trans h

theorem pulledN_le {n : Nat} (i : Int) (hn : n ≤ 1048576) : pulledN n i ≤ 1048576 := by unfold pulledN; split <;> omega
/-- what the program's PulledOff is to answer -/
def Pulls (fn : FuncId) : Prop := ∀ (v : Value) (n : Nat) (f : Slots) (i : Int) (w : World), n ≤ 1048576 → RowAt w v n f → Calls Tryz.prog fn #[v, .int .i64 i] w (NewRowS (pulledN n i) (pulledF f n i) (pulledS f n i) (hasB n i) w)

end Go.Proofs.YtonpbmeekgdilaaGreat

/-
  The program's FindSlot (chapter 2), by the library's IndexFunc and a closure.
-/
namespace Go.Proofs.YtonpbmeekgdilaaGreat
open Go.RowKit Go.Joins
set_option linter.unusedVariables false

set_option maxHeartbeats 400000 in
theorem findClo_is {b : Nat} {id x y : Int} (r : Bool) (hr : (x == id) = r) {w : World} (hc : w.cell? ⟨b, 0, none⟩ = some (.int .i64 id)) :
    Calls Tryz.prog 109 #[.agg #[.int .i64 x, .int .i64 y], .pointer (some ⟨b, 0, none⟩)] w fun e w' => e = .returned (.bool r) ∧ Below w.heap.size w w' := by
  have hl := World.block_lt_of_cell? w _ hc
  have c0 := (World.cell?_alloc_lt w (.cells #[.int .i64 x, .int .i64 y] 88) ⟨b, 0, none⟩ hl).trans hc
  clear hc
  go_enter Tryz.func109, Tryz.ntmps109
  go_wp2
  go_ret
  exact ⟨ret_bool (by first | rfl | exact hr), (Below.refl _ _).alloc (Nat.le_refl _) _⟩

set_option maxRecDepth 100000 in
set_option maxHeartbeats 1000000 in
theorem indexFunc_any {v : Value} {n bx : Nat} {f : Slots} {id : Int} {w : World} (hn : n ≤ 1048576) (h : RowAt w v n f) (hx : w.cell? ⟨bx, 0, none⟩ = some (.int .i64 id)) :
    Calls Tryz.prog 108 #[v, .func (.func 109) #[] #[.pointer (some ⟨bx, 0, none⟩)]] w fun e w' => e = .returned (.int .i64 (findFrom f n id 0)) ∧ Below w.heap.size w w' := by
  have hbx := World.block_lt_of_cell? w _ hx
  have HX := Lib.hid hx
  clear hx
  rcases h with ⟨rfl, a, cap, rfl⟩ | ⟨b, off, cap, rfl, hl, hc⟩
  · rw [findFrom_out (Nat.lt_irrefl 0)]
    go_enter Tryz.func108, Tryz.ntmps108
    go_wp2_with fail
    refine wp_loop_rounds 1 ?_
    rw [rounds_succ]
    go_wp2
    go_ret
    exact ⟨rfl, Below.refl _ _⟩
  · have H := Lib.hid hc
    clear hc
    go_enter Tryz.func108, Tryz.ntmps108
    go_wp2_with fail
    go_loopw [8] (fun i wr => ∃ k : Nat, k ≤ n ∧ i = .int .i64 k ∧ Below w.heap.size w wr ∧ Hid (findFrom f n id 0 = findFrom f n id k)) (fun i _ => n - (intOf i).toNat)
    case atStart => exact ⟨0, Nat.zero_le _, rfl, Below.refl _ _, Lib.hid rfl⟩
    case round =>
      obtain ⟨k, hk, rfl, hbw, hf⟩ := hrel
      by_cases hlt : k < n
      · have c0 := (hbw.cell (p := ⟨b, off + k * 2, none⟩) hl).trans (H.out k hlt).1
        have c1 := (hbw.cell (p := ⟨b, off + k * 2 + 1, none⟩) hl).trans (H.out k hlt).2
        have hx := (hbw.cell (p := ⟨bx, 0, none⟩) hbx).trans HX.out
        have b2 : (k : Int) < (n : Int) := by omega
        by_cases he : (f k).1 = id
        · have hr : ((f k).1 == id) = true := by simpa using he
          have hfk := Lib.hid (hf.out.trans (findFrom_here hlt he))
          clear he hf
          go_wp2_with fail
          go_at_call 109; refine (findClo_is true hr hx).mono ?_; rintro e w1 ⟨rfl, hb⟩
          have hb1 := hbw.trans (hb.mono hbw.size)
          clear c0 c1 hx hbw hb
          go_wp2
          go_ret
          exact ⟨ret_i64 hfk.out.symm, hb1⟩
        · have hr : ((f k).1 == id) = false := by simpa using he
          have hfk := Lib.hid (hf.out.trans (findFrom_next hlt he))
          clear he hf
          go_wp2_with fail
          go_at_call 109; refine (findClo_is false hr hx).mono ?_; rintro e w1 ⟨rfl, hb⟩
          have hb1 := hbw.trans (hb.mono hbw.size)
          clear c0 c1 hx hbw hb
          go_wp2
          exact ⟨⟨k + 1, by omega, by go_num, hb1, hfk⟩, by simp [intOf]; omega⟩
      · have hfk := Lib.hid (hf.out.trans (findFrom_out hlt))
        have b2 : ¬ (k : Int) < (n : Int) := by omega
        have hd : decide (k < n) = false := by simp; omega
        clear hf
        go_wp2
        go_ret
        exact ⟨ret_i64 hfk.out.symm, hbw⟩

set_option maxRecDepth 100000 in
set_option maxHeartbeats 1000000 in
theorem iFindSlot_holds : AsksI 88 findM := by
  intro v n f id w hn h
  have k0 := (Below.refl w.heap.size w).alloc (Nat.le_refl _) (.cells #[.int .i64 id] 2)
  have HR := Lib.hid (h.below k0)
  have hx := cell_of_block (heap_alloc_new w (.cells #[.int .i64 id] 2)) 0
  clear h
  go_enter Tryz.func88, Tryz.ntmps88
  go_wp2_with fail
  go_at_call 108; refine (indexFunc_any hn HR.out hx).mono ?_; rintro e w1 ⟨rfl, hb⟩
  go_wp2
  go_ret
  exact ⟨rfl, k0.trans (hb.mono k0.size)⟩

end Go.Proofs.YtonpbmeekgdilaaGreat
