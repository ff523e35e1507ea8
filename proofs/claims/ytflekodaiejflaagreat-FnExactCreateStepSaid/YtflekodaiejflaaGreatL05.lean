/-
  The program's generic list that is told what is less (chapter 2), at slots: its small methods.
-/
import Derived.Test.YtflekodaiejflaaGreatL04
import Derived.Test.YtflekodaiejflaaGreatL00
import Derived.Laws.EntriesVeiled
namespace Go.Proofs.YtflekodaiejflaaGreat
open Go.RowKit Go.Joins
set_option linter.unusedVariables false
set_option linter.unusedSimpArgs false

/-- what is less, as a value -/
abbrev dueV : Value := .func (.func 136) #[] #[]
/-- a heap of the program's, as a value -/
abbrev heapV (v : Value) : Value := .agg #[v, dueV]

set_option maxHeartbeats 400000 in
theorem hSize_any {v : Value} {n : Nat} {w : World} (hn : n ≤ 1048577) (hv : ∃ a cap, v = .slice a n cap) :
    Calls Tryz.prog 152 #[heapV v] w fun e w' => e = .returned (.int .i64 n) ∧ Below w.heap.size w w' := by
  obtain ⟨a, cap, rfl⟩ := hv
  go_enter Tryz.func152, Tryz.ntmps152
  go_wp2
  go_ret
  exact ⟨rfl, (Below.refl _ _).alloc (Nat.le_refl _) _⟩

set_option maxHeartbeats 400000 in
theorem dueBefore_any (a b c d : Int) (w : World) :
    Calls Tryz.prog 136 #[.agg #[.int .i64 a, .int .i64 b], .agg #[.int .i64 c, .int .i64 d]] w fun e w' => e = .returned (.bool (decide (b < d))) ∧ Below w.heap.size w w' := by
  go_enter Tryz.func136, Tryz.ntmps136
  go_wp2
  go_ret
  exact ⟨rfl, ((Below.refl _ _).alloc (Nat.le_refl _) _).alloc (by simp) _⟩

set_option maxHeartbeats 400000 in
theorem parentOf_any (i : Int) (w : World) (h0 : -9223372036854775808 < i) (h1 : i < 9223372036854775808) :
    Calls Tryz.prog 161 #[.int .i64 i] w fun e w' => e = .returned (.int .i64 ((i - 1).tdiv 4)) ∧ w = w' := by
  go_enter Tryz.func161, Tryz.ntmps161
  go_wp2
  go_ret
  exact ⟨rfl, rfl⟩

set_option maxHeartbeats 400000 in
theorem hHas_any {v : Value} {n : Nat} (i : Int) {w : World} (hn : n ≤ 1048577) (hv : ∃ a cap, v = .slice a n cap) :
    Calls Tryz.prog 159 #[heapV v, .int .i64 i] w fun e w' => e = .returned (.bool (hasB n i)) ∧ Below w.heap.size w w' := by
  have hv2 := hv
  obtain ⟨a, cap, rfl⟩ := hv
  go_enter Tryz.func159, Tryz.ntmps159
  go_wp2_with fail
  go_at_call 152; refine (hSize_any hn hv2).mono ?_; rintro e w1 ⟨rfl, hb⟩
  go_wp2_with fail
  go_at_call 121; refine (within_any _ _ _ _).mono ?_; rintro e w' ⟨rfl, rfl⟩
  go_wp2
  go_ret
  exact ⟨rfl, ((Below.refl _ _).alloc (Nat.le_refl _) _).trans (hb.mono (by simp))⟩

theorem hHas_is {v : Value} {n : Nat} {i : Int} (x : Bool) (h : hasB n i = x) {w : World} (hn : n ≤ 1048577) (hv : ∃ a cap, v = .slice a n cap) :
    Calls Tryz.prog 159 #[heapV v, .int .i64 i] w fun e w' => e = .returned (.bool x) ∧ Below w.heap.size w w' := h ▸ hHas_any i hn hv

set_option maxRecDepth 100000 in
set_option maxHeartbeats 1000000 in
theorem hLess_is {v : Value} {n : Nat} {f : Slots} {i j : Nat} (x : Bool) (hx : decide ((f i).2 < (f j).2) = x) {w : World} (hn : n ≤ 1048577) (hi : i < n) (hj : j < n) (h : RowAt w v n f) :
    Calls Tryz.prog 160 #[heapV v, .int .i64 i, .int .i64 j] w fun e w' => e = .returned (.bool x) ∧ Below w.heap.size w w' := by
  rcases h with ⟨rfl, _⟩ | ⟨b, off, cap, rfl, hl, hc⟩
  · omega
  have hb0 := (Below.refl w.heap.size w).alloc (Nat.le_refl _) (.cells #[.slice (some ⟨b, off, none⟩) n cap, dueV] 158)
  have HB := heap_alloc_new w (.cells #[.slice (some ⟨b, off, none⟩) n cap, dueV] 158)
  have x0 := cell_of_block HB 0
  have x1 := cell_of_block HB 1
  have i0 := (hb0.cell (p := ⟨b, off + i * 2, none⟩) hl).trans (hc i hi).1
  have i1 := (hb0.cell (p := ⟨b, off + i * 2 + 1, none⟩) hl).trans (hc i hi).2
  have j0 := (hb0.cell (p := ⟨b, off + j * 2, none⟩) hl).trans (hc j hj).1
  have j1 := (hb0.cell (p := ⟨b, off + j * 2 + 1, none⟩) hl).trans (hc j hj).2
  have hs0 : w.heap.size < (w.alloc (.cells #[.slice (some ⟨b, off, none⟩) n cap, dueV] 158)).heap.size := by simp
  have hs1 : b < (w.alloc (.cells #[.slice (some ⟨b, off, none⟩) n cap, dueV] 158)).heap.size := Nat.lt_trans hl hs0
  have hii : (i : Int) < (n : Int) := by omega
  have hjj : (j : Int) < (n : Int) := by omega
  clear HB hc
  go_enter Tryz.func160, Tryz.ntmps160
  go_wp2_with fail
  go_region_held3 (fun w' => w'.cell? ⟨w.heap.size, 0, none⟩ = some (.slice (some ⟨b, off, none⟩) n cap) ∧ w'.cell? ⟨w.heap.size, 1, none⟩ = some dueV
      ∧ w'.cell? ⟨b, off + i * 2, none⟩ = some (.int .i64 (f i).1) ∧ w'.cell? ⟨b, off + i * 2 + 1, none⟩ = some (.int .i64 (f i).2)
      ∧ w'.cell? ⟨b, off + j * 2, none⟩ = some (.int .i64 (f j).1) ∧ w'.cell? ⟨b, off + j * 2 + 1, none⟩ = some (.int .i64 (f j).2))
    (first | exact ⟨x0, x1, i0, i1, j0, j1⟩ | exact ⟨y0, y1, y2, y3, y4, y5⟩ | go_keep)
    (first
      | (go_at_call 136; refine (dueBefore_any _ _ _ _ _).mono ?_; rintro e w1 ⟨rfl, hb⟩
         have y0 := (hb.cell (p := ⟨w.heap.size, 0, none⟩) hs0).trans x0; have y1 := (hb.cell (p := ⟨w.heap.size, 1, none⟩) hs0).trans x1
         have y2 := (hb.cell (p := ⟨b, off + i * 2, none⟩) hs1).trans i0; have y3 := (hb.cell (p := ⟨b, off + i * 2 + 1, none⟩) hs1).trans i1
         have y4 := (hb.cell (p := ⟨b, off + j * 2, none⟩) hs1).trans j0; have y5 := (hb.cell (p := ⟨b, off + j * 2 + 1, none⟩) hs1).trans j1))
  all_goals
    go_wp2
    go_ret
    exact ⟨rfl, hb0.drew.trans (hb.mono hb0.drew.size)⟩

set_option maxRecDepth 100000 in
set_option maxHeartbeats 1000000 in
theorem hSwap_any {B g n cap : Nat} {f : Slots} {i j : Nat} {w : World} (hn : n ≤ 1048577) (hi : i < n) (hj : j < n) (hij : i ≠ j) (h : OwnAt w B g n cap f) :
    Calls Tryz.prog 162 #[heapV (.slice (some ⟨g, 0, none⟩) n cap), .int .i64 i, .int .i64 j] w fun e w' => e = .returned (.tuple #[]) ∧ OwnAt w' B g n cap (swapF f i j) ∧ w.grownBy w' (some g) := by
  have hO := h.alloc (.cells #[.slice (some ⟨g, 0, none⟩) n cap, dueV] 158)
  have hl := h.lt
  have HB := heap_alloc_new w (.cells #[.slice (some ⟨g, 0, none⟩) n cap, dueV] 158)
  have x0 := cell_of_block HB 0
  have x1 := cell_of_block HB 1
  obtain ⟨i0, i1⟩ := hO.cells hi
  obtain ⟨j0, j1⟩ := hO.cells hj
  have f0 := hO.free (i * 2)
  have f1 := hO.free (i * 2 + 1)
  have f2 := hO.free (j * 2)
  have f3 := hO.free (j * 2 + 1)
  have hlt := hO.lt
  have hii : (i : Int) < (n : Int) := by omega
  have hjj : (j : Int) < (n : Int) := by omega
  have hR := ((hO.put hi (f j).1 (f j).2).put hj (f i).1 (f i).2)
  have hg0 := g_alloc (g_refl w (some g)) (.cells #[.slice (some ⟨g, 0, none⟩) n cap, dueV] 158)
  clear HB h
  go_enter Tryz.func162, Tryz.ntmps162
  go_wp2_with fail
  generalize w.alloc (.cells #[.slice (some ⟨g, 0, none⟩) n cap, dueV] 158) = wq at *
  go_region
  all_goals
    go_wp2
    go_end0
    exact ⟨rfl, hR.drew, g_drew (g_own (g_own (g_own (g_own hg0 _ _) _ _) _ _) _ _)⟩

end Go.Proofs.YtflekodaiejflaaGreat

/-
  The model's two sifts (spec, chapter 2): what each makes of a list.
-/
namespace Go.Proofs.YtflekodaiejflaaGreat
open Go.RowKit Go.Joins
set_option linter.unusedVariables false
set_option linter.unusedSimpArgs false

theorem raisedF_has {f : Slots} {n : Nat} {i : Int} (h : hasB n i = true) : raisedF f n i = raiseF f i.toNat := by simp [raisedF, h]
theorem raisedF_no {f : Slots} {n : Nat} {i : Int} (h : hasB n i = false) : raisedF f n i = f := by simp [raisedF, h]
theorem sunkF_has {f : Slots} {n : Nat} {i : Int} (h : hasB n i = true) : sunkF f n i = sinkF f n i.toNat := by simp [sunkF, h]
theorem sunkF_no {f : Slots} {n : Nat} {i : Int} (h : hasB n i = false) : sunkF f n i = f := by simp [sunkF, h]

set_option maxHeartbeats 1000000 in
theorem spRaised_any {v : Value} {n : Nat} {f : Slots} (i : Int) {w : World} (hn : n ≤ 1048576) (h : RowAt w v n f) :
    Calls Tryz.prog 125 #[v, .int .i64 i] w (NewRow n (raisedF f n i) w) := by
  have HR := Lib.hid h
  clear h
  cases hi : hasB n i
  · rw [raisedF_no hi]
    go_enter Tryz.func125, Tryz.ntmps125
    go_wp2_with fail
    go_at_call 71; refine (l2Copy_any hn HR.out).mono ?_; rintro e w1 ⟨v1, rfl, hO, hb⟩
    go_wp2_with fail
    go_at_call 138; refine (l2Has_any f i hn (HR.out.below hb)).mono ?_; rintro e w' ⟨rfl, rfl⟩
    go_wp2
    go_ret
    exact ⟨v1, rfl, hO, hb⟩
  · obtain ⟨i0, i1⟩ := hasB_iff.1 hi
    rw [raisedF_has hi]
    obtain ⟨k0, rfl⟩ : ∃ k0 : Nat, i = k0 := ⟨i.toNat, by omega⟩
    rw [Int.toNat_natCast]
    go_enter Tryz.func125, Tryz.ntmps125
    go_wp2_with fail
    go_at_call 71; refine (l2Copy_any hn HR.out).mono ?_; rintro e w1 ⟨v1, rfl, hO, hb⟩
    go_wp2_with fail
    go_at_call 138; refine (l2Has_any f _ hn (HR.out.below hb)).mono ?_; rintro e w' ⟨rfl, rfl⟩
    rcases hO with ⟨rfl, _⟩ | ⟨g, cap, rfl, hO⟩
    · omega
    go_wp2
    go_loopw [1] (fun i wr => ∃ (k : Nat) (f' : Slots), k < n ∧ i = .int .i64 k ∧ OwnAt wr w.heap.size g n cap f' ∧ Below w.heap.size w wr ∧ Hid (raiseF f k0 = raiseF f' k)) (fun i _ => (intOf i).toNat)
    case atStart => exact ⟨k0, f, by omega, rfl, hO, hb, Lib.hid rfl⟩
    case round =>
      obtain ⟨k, f', hk, rfl, hOk, hbk, hf⟩ := hrel
      obtain ⟨c0, c1⟩ := hOk.cells hk
      obtain ⟨p0, p1⟩ := hOk.cells (show (k - 1) / 4 < n by omega)
      have hlt := hOk.lt
      have b2 : (k : Int) < (n : Int) := by omega
      cases hup : upB f' k
      · have hfk := Lib.hid (hf.out.trans (raiseF_stop hup))
        clear hf
        by_cases hz : k = 0
        · subst hz
          clear hup
          go_wp2
          go_quiet (fail)
          go_wp2
          go_ret
          exact ⟨_, rfl, by rw [hfk.out]; exact hOk.own, b_drewN hbk _⟩
        · have hk0 : (0 : Int) < (k : Int) := by omega
          have hd0 : decide (0 < k) = true := by simp; omega
          have e1 : IntKind.i64.wrap ((k : Int) - 1) = ((k - 1 : Nat) : Int) := by rw [IntKind.wrap_i64]; omega
          have e2 : ((k - 1 : Nat) : Int).tdiv 4 = ((k - 1) / 4 : Nat) := by rw [Int.tdiv_eq_ediv_of_nonneg (by omega)]; omega
          have b1 : (((k - 1) / 4 : Nat) : Int) < (n : Int) := by omega
          have hd : decide ((f' k).2 < (f' ((k - 1) / 4)).2) = false := by
            simp only [upB, Bool.and_eq_false_iff, decide_eq_false_iff_not] at hup
            simp only [decide_eq_false_iff_not]
            omega
          clear hup hz
          go_wp2
          go_quiet (fail)
          clear e1 e2
          go_wp2
          go_ret
          exact ⟨_, rfl, by rw [hfk.out]; exact hOk.own, b_drewN hbk _⟩
      · have hfk := Lib.hid (hf.out.trans (raiseF_up hup))
        clear hf
        have hk0 : (0 : Int) < (k : Int) := by simp [upB] at hup; omega
        have hd0 : decide (0 < k) = true := by simp; omega
        have hd : decide ((f' k).2 < (f' ((k - 1) / 4)).2) = true := by simp only [upB, Bool.and_eq_true] at hup; exact hup.2
        have e1 : IntKind.i64.wrap ((k : Int) - 1) = ((k - 1 : Nat) : Int) := by rw [IntKind.wrap_i64]; omega
        have e2 : ((k - 1 : Nat) : Int).tdiv 4 = ((k - 1) / 4 : Nat) := by rw [Int.tdiv_eq_ediv_of_nonneg (by omega)]; omega
        have b1 : (((k - 1) / 4 : Nat) : Int) < (n : Int) := by omega
        clear hup
        go_wp2
        go_quiet (fail)
        generalize hq : World.drewN wr _ = wq
        have hOq : OwnAt wq w.heap.size g n cap f' := hq ▸ hOk.drewN _
        have hbq : Below w.heap.size w wq := hq ▸ b_drewN hbk _
        clear hq c0 c1 p0 p1 hlt hOk hbk
        obtain ⟨c0, c1⟩ := hOq.cells hk
        obtain ⟨p0, p1⟩ := hOq.cells (show (k - 1) / 4 < n by omega)
        have hlt := hOq.lt
        have fr := hOq.free
        have f0 := fr (k * 2)
        have f1 := fr (k * 2 + 1)
        have f2 := fr ((k - 1) / 4 * 2)
        have f3 := fr ((k - 1) / 4 * 2 + 1)
        clear fr
        clear e1 e2
        have hg := hOq.1
        have hqn : (k - 1) / 4 < n := by omega
        go_wp2
        exact ⟨⟨(k - 1) / 4, swapF f' k ((k - 1) / 4), hqn, congrArg (Value.int .i64) (by omega), ((hOq.put hk _ _).put hqn _ _).alloc _,
          ((((hbq.setCell (p := ⟨g, k * 2, none⟩) hg _).setCell (p := ⟨g, k * 2 + 1, none⟩) hg _).setCell (p := ⟨g, (k - 1) / 4 * 2, none⟩) hg _).setCell (p := ⟨g, (k - 1) / 4 * 2 + 1, none⟩) hg _).alloc (by simpa using hbq.size) _, hfk⟩,
          by simp only [intOf]; omega⟩

end Go.Proofs.YtflekodaiejflaaGreat

/-
  The model's PushedOn and PulledOff (spec, chapter 2).
-/
namespace Go.Proofs.YtflekodaiejflaaGreat
open Go.RowKit Go.Joins
set_option linter.unusedVariables false
set_option linter.unusedSimpArgs false

def pushedF (f : Slots) (n : Nat) (s : Int × Int) : Slots := if n < 30 then raiseF (putF f n s) n else f
def pushedN (n : Nat) : Nat := if n < 30 then n + 1 else n

/-- a call that makes a new list and says yes or no -/
def NewRowB (n : Nat) (f : Slots) (b : Bool) (w : World) (e : Ending) (w' : World) : Prop := ∃ v, e = .returned (.tuple #[v, .bool b]) ∧ OwnRow w' w.heap.size v n f ∧ Below w.heap.size w w'

set_option maxRecDepth 100000 in
set_option maxHeartbeats 1000000 in
theorem spPushed_in {v : Value} {n : Nat} {f : Slots} (a b : Int) {w : World} (hn : n < 30) (h : RowAt w v n f) :
    Calls Tryz.prog 112 #[v, .agg #[.int .i64 a, .int .i64 b]] w (NewRowB (n + 1) (raiseF (putF f n (a, b)) n) true w) := by
  have HR := Lib.hid h
  obtain ⟨va, vc, hv⟩ := h.form
  clear h
  have hn2 : (n : Int) < 30 := by omega
  subst hv
  go_enter Tryz.func112, Tryz.ntmps112
  go_wp2_with fail
  have c0 : (w.alloc (.cells #[.int .i64 a, .int .i64 b] 133)).drew.cell? ⟨w.heap.size, 0, none⟩ = some (.int .i64 a) := cell_of_block (heap_alloc_new w _) 0
  have c1 : (w.alloc (.cells #[.int .i64 a, .int .i64 b] 133)).drew.cell? ⟨w.heap.size, 1, none⟩ = some (.int .i64 b) := cell_of_block (heap_alloc_new w _) 1
  have kb := ((Below.refl w.heap.size w).alloc (Nat.le_refl _) (.cells #[.int .i64 a, .int .i64 b] 133)).drew
  have hs0 : w.heap.size < (w.alloc (.cells #[.int .i64 a, .int .i64 b] 133)).drew.heap.size := by simp
  have d0 : ((w.alloc (.cells #[.int .i64 a, .int .i64 b] 133)).alloc (.cells #[.int .i64 a, .int .i64 b] 133)).drew.cell? ⟨w.heap.size, 0, none⟩ = some (.int .i64 a) := (World.cell?_alloc_lt (w.alloc (.cells #[.int .i64 a, .int .i64 b] 133)) (.cells #[.int .i64 a, .int .i64 b] 133) ⟨w.heap.size, 0, none⟩ hs0).trans c0
  have d1 : ((w.alloc (.cells #[.int .i64 a, .int .i64 b] 133)).alloc (.cells #[.int .i64 a, .int .i64 b] 133)).drew.cell? ⟨w.heap.size, 1, none⟩ = some (.int .i64 b) := (World.cell?_alloc_lt (w.alloc (.cells #[.int .i64 a, .int .i64 b] 133)) (.cells #[.int .i64 a, .int .i64 b] 133) ⟨w.heap.size, 1, none⟩ hs0).trans c1
  have ds : w.heap.size < ((w.alloc (.cells #[.int .i64 a, .int .i64 b] 133)).alloc (.cells #[.int .i64 a, .int .i64 b] 133)).drew.heap.size := by simp; omega
  have kd := (((Below.refl w.heap.size w).alloc (Nat.le_refl _) (.cells #[.int .i64 a, .int .i64 b] 133)).alloc (by simp) (.cells #[.int .i64 a, .int .i64 b] 133)).drew
  have dr : RowAt ((w.alloc (.cells #[.int .i64 a, .int .i64 b] 133)).alloc (.cells #[.int .i64 a, .int .i64 b] 133)).drew (.slice (some ⟨w.heap.size + 1, 0, none⟩) 1 1) 1 (fun _ => (a, b)) := by
    have := one_row (w.alloc (.cells #[.int .i64 a, .int .i64 b] 133)) a b
    rw [show (w.alloc (.cells #[.int .i64 a, .int .i64 b] 133)).heap.size = w.heap.size + 1 by simp] at this
    exact this
  go_region_held3 (fun w' => w'.cell? ⟨w.heap.size, 0, none⟩ = some (.int .i64 a) ∧ w'.cell? ⟨w.heap.size, 1, none⟩ = some (.int .i64 b))
    (first | exact ⟨c0, c1⟩ | exact ⟨d0, d1⟩ | exact ⟨cA0, cA1⟩ | go_keep)
    (first
      | (go_at_call 71; refine (l2Copy_any (by omega) (HR.out.below kb)).mono ?_; rintro e w1 ⟨v1, rfl, hO, hb1⟩
         replace c0 := (hb1.cell (p := ⟨w.heap.size, 0, none⟩) hs0).trans c0; replace c1 := (hb1.cell (p := ⟨w.heap.size, 1, none⟩) hs0).trans c1
         replace kb := kb.trans (hb1.mono (Nat.le_of_lt hs0)); have hsA := Nat.lt_of_lt_of_le hs0 hb1.size; have hBA := Nat.le_trans hb1.size (show w1.heap.size ≤ (w1.alloc (.cells #[.int .i64 a, .int .i64 b] 133)).heap.size by simp)
         have cA0 := (World.cell?_alloc_lt w1 (.cells #[.int .i64 a, .int .i64 b] 133) ⟨w.heap.size, 0, none⟩ hsA).trans c0; have cA1 := (World.cell?_alloc_lt w1 (.cells #[.int .i64 a, .int .i64 b] 133) ⟨w.heap.size, 1, none⟩ hsA).trans c1
         have kA := kb.alloc (Nat.le_of_lt hsA) (.cells #[.int .i64 a, .int .i64 b] 133); have hOA := hO.alloc (.cells #[.int .i64 a, .int .i64 b] 133); have hsrcA := one_row w1 a b; clear d0 d1 ds kd dr)
      | (go_at_call 71; refine (l2Copy_any (by omega) (HR.out.below kd)).mono ?_; rintro e w1 ⟨v1, rfl, hO, hb1⟩
         replace d0 := (hb1.cell (p := ⟨w.heap.size, 0, none⟩) ds).trans d0; replace d1 := (hb1.cell (p := ⟨w.heap.size, 1, none⟩) ds).trans d1
         replace kd := kd.trans (hb1.mono (Nat.le_of_lt ds)); have hsrcD := dr.below hb1; have hBD := hb1.size)
      | (refine step_append_slots rfl (.tmp 12) (.tmp 14) rfl _ v1 n f rfl (row_of_ownrow hOA) _ 1 (fun _ => (a, b)) rfl hsrcA (by omega) hBA ?_; intro v2 w2 hown2 hg2 hat2
         have hb2 := hOA.below_own hg2 hBA; have c0' := (hb2.cell (p := ⟨w.heap.size, 0, none⟩) hs0).trans cA0; have c1' := (hb2.cell (p := ⟨w.heap.size, 1, none⟩) hs0).trans cA1; clear c0 c1
         rw [cellsF_push] at hown2; have hO2 := own_of_row hown2; have k2 := kA.trans (hb2.mono (Nat.le_of_lt hs0)); have c0 := c0'; have c1 := c1'; clear hOA hsrcA kA kb cA0 cA1)
      | (refine step_append_slots rfl (.tmp 12) (.tmp 14) rfl _ v1 n f rfl (row_of_ownrow hO) _ 1 (fun _ => (a, b)) rfl hsrcD (by omega) hBD ?_; intro v2 w2 hown2 hg2 hat2
         have hb2 := hO.below_own hg2 hBD; have c0' := (hb2.cell (p := ⟨w.heap.size, 0, none⟩) ds).trans d0; have c1' := (hb2.cell (p := ⟨w.heap.size, 1, none⟩) ds).trans d1; clear c0 c1
         rw [cellsF_push] at hown2; have hO2 := own_of_row hown2; have k2 := kd.trans (hb2.mono (Nat.le_of_lt ds)); have c0 := c0'; have c1 := c1'; clear hO hsrcD kd kb d0 d1)
      | (go_at_call 125; refine (spRaised_any _ (by omega) hO2.row).mono ?_; rintro e w3 ⟨v3, rfl, hO3, hb3⟩; have hl2 := World.block_lt_of_cell? w2 _ c0; replace c0 := (hb3.cell (p := ⟨w.heap.size, 0, none⟩) hl2).trans c0; replace c1 := (hb3.cell (p := ⟨w.heap.size, 1, none⟩) hl2).trans c1; have k3 := k2.trans (hb3.mono k2.size); have hO4 := hO3.mono k2.size))
  all_goals
    clear HR
    go_wp2
    go_ret2
    exact ⟨v3, rfl, by rw [raisedF_has (hasB_iff.2 ⟨by omega, by omega⟩), Int.toNat_natCast] at hO4; exact hO4, k3⟩

set_option maxHeartbeats 400000 in
theorem spPushed_out {v : Value} {n : Nat} {f : Slots} (a b : Int) {w : World} (hn : 30 ≤ n) (hn1 : n ≤ 1048576) (h : RowAt w v n f) :
    Calls Tryz.prog 112 #[v, .agg #[.int .i64 a, .int .i64 b]] w (NewRowB n f false w) := by
  have HR := Lib.hid h
  obtain ⟨va, vc, hv⟩ := h.form
  clear h
  have hn2 : (30 : Int) ≤ (n : Int) := by omega
  subst hv
  have kb := (Below.refl w.heap.size w).alloc (Nat.le_refl _) (.cells #[.int .i64 a, .int .i64 b] 133)
  go_enter Tryz.func112, Tryz.ntmps112
  go_wp2_with fail
  go_at_call 71; refine (l2Copy_any hn1 (HR.out.below kb)).mono ?_; rintro e w1 ⟨v1, rfl, hO, hb1⟩
  have k1 := kb.trans (hb1.mono kb.size)
  have hO1 := hO.mono kb.size
  clear HR hO hb1 kb
  go_wp2
  go_ret2
  exact ⟨v1, rfl, hO1, k1⟩

theorem spPushed_any {v : Value} {n : Nat} {f : Slots} (a b : Int) {w : World} (hn : n ≤ 1048576) (h : RowAt w v n f) :
    Calls Tryz.prog 112 #[v, .agg #[.int .i64 a, .int .i64 b]] w (NewRowB (pushedN n) (pushedF f n (a, b)) (decide (n < 30)) w) := by
  by_cases h30 : n < 30
  · rw [pushedN, if_pos h30, pushedF, if_pos h30, decide_eq_true h30]
    exact spPushed_in a b h30 h
  · rw [pushedN, if_neg h30, pushedF, if_neg h30, decide_eq_false h30]
    exact spPushed_out a b (by omega) hn h

/-! ### PulledOff -/
def pulledF (f : Slots) (n : Nat) (i : Int) : Slots :=
  if hasB n i then (if i < (n : Int) - 1 then sunkF (raisedF (putF f i.toNat (f (n - 1))) (n - 1) i) (n - 1) i else f) else f
def pulledN (n : Nat) (i : Int) : Nat := if hasB n i then n - 1 else n
def pulledS (f : Slots) (n : Nat) (i : Int) : Int × Int := if hasB n i then f i.toNat else (0, 0)

theorem pulledF_mid {f : Slots} {n k : Nat} (h : k < n - 1) : pulledF f n (k : Int) = sunkF (raisedF (putF f k (f (n - 1))) (n - 1) k) (n - 1) k := by
  rw [pulledF, if_pos (hasB_iff.2 ⟨by omega, by omega⟩), if_pos (by omega), Int.toNat_natCast]
theorem pulledF_last {f : Slots} {n k : Nat} (hk : k < n) (h : ¬ k < n - 1) : pulledF f n (k : Int) = f := by
  rw [pulledF, if_pos (hasB_iff.2 ⟨by omega, by omega⟩), if_neg (by omega)]
/-- a call that makes a new list, hands a slot back and says yes or no -/
def NewRowS (n : Nat) (f : Slots) (s : Int × Int) (b : Bool) (w : World) (e : Ending) (w' : World) : Prop := ∃ v, e = .returned (.tuple #[v, .agg #[.int .i64 s.1, .int .i64 s.2], .bool b]) ∧ OwnRow w' w.heap.size v n f ∧ Below w.heap.size w w'

end Go.Proofs.YtflekodaiejflaaGreat

/-
  The exact laws on heaps, told what the program's own functions answer.
-/
namespace Go.Proofs.YtflekodaiejflaaGreat
open Go.RowKit Go.Joins
set_option linter.unusedVariables false
set_option linter.unusedSimpArgs false

/-- what a sift of the program's is to answer -/
def Sifts (fn : FuncId) (M : Slots → Nat → Int → Slots) : Prop := ∀ (v : Value) (n : Nat) (f : Slots) (i : Int) (w : World), n ≤ 1048576 → RowAt w v n f → Calls Tryz.prog fn #[v, .int .i64 i] w (NewRow n (M f n i) w)
/-- the law's size test: too long -/
theorem big_n {n : Nat} (h : ¬ n ≤ 1048576) : (if (1048576 : Int) < (n : Int) then (-1 : Int) else 1048576 - (n : Int)) = -1 := if_pos (by omega)
theorem small_n {n : Nat} (h : n ≤ 1048576) : (if (1048576 : Int) < (n : Int) then (-1 : Int) else 1048576 - (n : Int)) = 1048576 - (n : Int) := if_neg (by omega)

/-! ### exRaised -/
/-! ### exSunk -/
/-- what a question of the program's is to answer -/
def AsksB (fn : FuncId) (M : Slots → Nat → Bool) : Prop := ∀ (v : Value) (n : Nat) (f : Slots) (w : World), n ≤ 1048576 → RowAt w v n f → Calls Tryz.prog fn #[v] w fun e w' => e = .returned (.bool (M f n)) ∧ Below w.heap.size w w'
def AsksI (fn : FuncId) (M : Slots → Nat → Int → Int) : Prop := ∀ (v : Value) (n : Nat) (f : Slots) (i : Int) (w : World), n ≤ 1048576 → RowAt w v n f → Calls Tryz.prog fn #[v, .int .i64 i] w fun e w' => e = .returned (.int .i64 (M f n i)) ∧ Below w.heap.size w w'
theorem spHeapOk_low {v : Value} {n : Nat} (f : Slots) {w : World} (hn : n ≤ 1048576) (h : RowAt w v n f) :
    Calls Tryz.prog 124 #[v] w fun e w' => e = .returned (.bool (heapB f n)) ∧ Below w.heap.size w w' :=
  (spHeapOk_any f hn h).mono fun e w' ⟨m, he, hw⟩ => ⟨he, by rw [hw]; exact b_drewN (Below.refl _ _) m⟩
def findM (f : Slots) (n : Nat) (i : Int) : Int := findFrom f n i 0
theorem spFindSlot_low {v : Value} {n : Nat} (f : Slots) (i : Int) {w : World} (hn : n ≤ 1048576) (h : RowAt w v n f) :
    Calls Tryz.prog 89 #[v, .int .i64 i] w fun e w' => e = .returned (.int .i64 (findM f n i)) ∧ Below w.heap.size w w' :=
  (spFindSlot_any f i hn h).mono fun e w' ⟨he, hw⟩ => ⟨he, by rw [← hw]; exact Below.refl _ _⟩

/-! ### exHeapOk -/
/-! ### exFindSlot -/
/-! ### exPulled: a list and a slot and a word, asked of one list and one number -/
theorem blk_step {w w' : World} {b : Nat} {o : Obj} (h : w.heap[b]? = some o) (hb : Below w.heap.size w w') : w'.heap[b]? = some o := b_block hb h (lt_of_block h)
theorem blk_kept {w w' : World} {b : Nat} {o : Obj} {ob : Option Nat} (h : w.heap[b]? = some o) (hg : w.grownBy w' ob) (hne : ∀ g, ob = some g → g ≠ b) : w'.heap[b]? = some o :=
  (hg.block b (lt_of_block h) (by intro e; exact hne b e.symm rfl)).trans h

theorem pulledN_le {n : Nat} (i : Int) (hn : n ≤ 1048576) : pulledN n i ≤ 1048576 := by unfold pulledN; split <;> omega
/-- what the program's PulledOff is to answer -/
def Pulls (fn : FuncId) : Prop := ∀ (v : Value) (n : Nat) (f : Slots) (i : Int) (w : World), n ≤ 1048576 → RowAt w v n f → Calls Tryz.prog fn #[v, .int .i64 i] w (NewRowS (pulledN n i) (pulledF f n i) (pulledS f n i) (hasB n i) w)

end Go.Proofs.YtflekodaiejflaaGreat

/-
  The program's FindSlot (chapter 2), by the library's IndexFunc and a closure.
-/
namespace Go.Proofs.YtflekodaiejflaaGreat
open Go.RowKit Go.Joins
set_option linter.unusedVariables false
set_option linter.unusedSimpArgs false

set_option maxHeartbeats 400000 in
theorem findClo_is {b : Nat} {id x y : Int} (r : Bool) (hr : (x == id) = r) {w : World} (hc : w.cell? ⟨b, 0, none⟩ = some (.int .i64 id)) :
    Calls Tryz.prog 158 #[.agg #[.int .i64 x, .int .i64 y], .pointer (some ⟨b, 0, none⟩)] w fun e w' => e = .returned (.bool r) ∧ Below w.heap.size w w' := by
  have hl := World.block_lt_of_cell? w _ hc
  have c0 := (World.cell?_alloc_lt w (.cells #[.int .i64 x, .int .i64 y] 133) ⟨b, 0, none⟩ hl).trans hc
  clear hc
  go_enter Tryz.func158, Tryz.ntmps158
  go_wp2
  go_ret
  exact ⟨ret_bool (by first | rfl | exact hr), (Below.refl _ _).alloc (Nat.le_refl _) _⟩

set_option maxRecDepth 100000 in
set_option maxHeartbeats 1000000 in
theorem indexFunc_any {v : Value} {n bx : Nat} {f : Slots} {id : Int} {w : World} (hn : n ≤ 1048576) (h : RowAt w v n f) (hx : w.cell? ⟨bx, 0, none⟩ = some (.int .i64 id)) :
    Calls Tryz.prog 157 #[v, .func (.func 158) #[] #[.pointer (some ⟨bx, 0, none⟩)]] w fun e w' => e = .returned (.int .i64 (findFrom f n id 0)) ∧ Below w.heap.size w w' := by
  have hbx := World.block_lt_of_cell? w _ hx
  have HX := Lib.hid hx
  clear hx
  rcases h with ⟨rfl, a, cap, rfl⟩ | ⟨b, off, cap, rfl, hl, hc⟩
  · rw [findFrom_out (Nat.lt_irrefl 0)]
    go_enter Tryz.func157, Tryz.ntmps157
    go_wp2_with fail
    refine wp_loop_rounds 1 ?_
    rw [rounds_succ]
    go_wp2
    go_ret
    exact ⟨rfl, Below.refl _ _⟩
  · have H := Lib.hid hc
    clear hc
    go_enter Tryz.func157, Tryz.ntmps157
    go_wp2_with fail
    go_loopw [8] (fun i wr => ∃ k : Nat, k ≤ n ∧ i = .int .i64 k ∧ Below w.heap.size w wr ∧ Hid (findFrom f n id 0 = findFrom f n id k)) (fun i _ => n - (intOf i).toNat)
    case atStart => exact ⟨0, Nat.zero_le _, rfl, Below.refl _ _, Lib.hid rfl⟩
    case round =>
      obtain ⟨k, hk, rfl, hbw, hf⟩ := hrel
      by_cases hlt : k < n
      · have c0 := (hbw.cell (p := ⟨b, off + k * 2, none⟩) hl).trans (H.out k hlt).1
        have c1 := (hbw.cell (p := ⟨b, off + k * 2 + 1, none⟩) hl).trans (H.out k hlt).2
        have hx := (hbw.cell (p := ⟨bx, 0, none⟩) hbx).trans HX.out
        have b2 : (k : Int) < (n : Int) := by omega
        by_cases he : (f k).1 = id
        · have hr : ((f k).1 == id) = true := by simpa using he
          have hfk := Lib.hid (hf.out.trans (findFrom_here hlt he))
          clear he hf
          go_wp2_with fail
          go_at_call 158; refine (findClo_is true hr hx).mono ?_; rintro e w1 ⟨rfl, hb⟩
          have hb1 := hbw.trans (hb.mono hbw.size)
          clear c0 c1 hx hbw hb
          go_wp2
          go_ret
          exact ⟨ret_i64 hfk.out.symm, hb1⟩
        · have hr : ((f k).1 == id) = false := by simpa using he
          have hfk := Lib.hid (hf.out.trans (findFrom_next hlt he))
          clear he hf
          go_wp2_with fail
          go_at_call 158; refine (findClo_is false hr hx).mono ?_; rintro e w1 ⟨rfl, hb⟩
          have hb1 := hbw.trans (hb.mono hbw.size)
          clear c0 c1 hx hbw hb
          go_wp2
          exact ⟨⟨k + 1, by omega, by go_num, hb1, hfk⟩, by simp [intOf]; omega⟩
      · have hfk := Lib.hid (hf.out.trans (findFrom_out hlt))
        have b2 : ¬ (k : Int) < (n : Int) := by omega
        have hd : decide (k < n) = false := by simp; omega
        clear hf
        go_wp2
        go_ret
        exact ⟨ret_i64 hfk.out.symm, hbw⟩

set_option maxRecDepth 100000 in
set_option maxHeartbeats 1000000 in
theorem iFindSlot_holds : AsksI 148 findM := by
  intro v n f id w hn h
  have k0 := (Below.refl w.heap.size w).alloc (Nat.le_refl _) (.cells #[.int .i64 id] 2)
  have HR := Lib.hid (h.below k0)
  have hx := cell_of_block (heap_alloc_new w (.cells #[.int .i64 id] 2)) 0
  clear h
  go_enter Tryz.func148, Tryz.ntmps148
  go_wp2_with fail
  go_at_call 157; refine (indexFunc_any hn HR.out hx).mono ?_; rintro e w1 ⟨rfl, hb⟩
  go_wp2
  go_ret
  exact ⟨rfl, k0.trans (hb.mono k0.size)⟩

end Go.Proofs.YtflekodaiejflaaGreat

/-
  A memory as the program works with it (chapter 5): how many slots are of deleted timers; is an earlier one overlooked; does each timer stand where it says?
-/
namespace Go.Proofs.YtflekodaiejflaaGreat
open Go.RowKit Go.Joins
set_option linter.unusedVariables false
set_option linter.unusedSimpArgs false

set_option maxRecDepth 100000 in
set_option maxHeartbeats 8000000 in
theorem deletedOf_any {mb : Nat} {a b c : Int} {M : Me} {w : World} (htn : M.tn ≤ 1048576) (h : SeenAt w mb a b c M) {v : Value} {n : Nat} {f : Slots} (hn : n ≤ 1048576) (hr : RowAt w v n f) (hids : ∀ i, i < n → hasT M (f i).1 = true) :
    Calls Tryz.prog 129 #[ptrV mb, v] w fun e w' => e = .returned (.int .i64 (delsF M f n)) ∧ Below w.heap.size w w' := by
  obtain ⟨a1, c1, rfl⟩ := hr.form
  have HR := Lib.hid hr
  have HS := Lib.hid h
  have HI := Lib.hid hids
  clear h hr hids
  go_enter Tryz.func129, Tryz.ntmps129
  go_wp2_with fail
  go_loopw [5, 10] (fun z i wr => ∃ (q : Nat) (y : Int), q ≤ n ∧ i = .int .i64 q ∧ z = .int .i64 y ∧ y = delsF M f q ∧ Below w.heap.size w wr) (fun _ i _ => n - (intOf i).toNat)
  case atStart => exact ⟨0, 0, Nat.zero_le _, rfl, rfl, rfl, Below.refl _ _⟩
  case round =>
    obtain ⟨i, y, hi, rfl, rfl, hy, kw⟩ := hrel
    have hyb := dels_le M f i
    rw [← hy] at hyb
    obtain ⟨y0, y1⟩ := hyb
    have HY := Lib.hid hy
    clear hy
    by_cases hlt : i < n
    · rcases HR.out with ⟨h0, _⟩ | ⟨sb, so, scap, ev, hsb, hsc⟩
      · omega
      injection ev with ev1 ev2 ev3
      subst ev1 ev3
      obtain ⟨s0, s1⟩ := hsc i hlt
      replace s0 := (kw.cell (p := ⟨sb, so + i * 2, none⟩) hsb).trans s0
      replace s1 := (kw.cell (p := ⟨sb, so + i * 2 + 1, none⟩) hsb).trans s1
      have i1 : (i : Int) < (n : Int) := by omega
      have i0 : (0 : Int) ≤ (i : Int) := by omega
      obtain ⟨j, hj0⟩ : ∃ j : Nat, (f i).1 = (j : Int) := ⟨((f i).1).toNat, by have := hasT_iff.1 (HI.out i hlt); omega⟩
      have hj : j < M.tn := by have := hasT_iff.1 (HI.out i hlt); omega
      obtain ⟨ky, hky⟩ : ∃ ky : Int, ky = (f i).2 := ⟨_, rfl⟩
      rw [hj0] at s0
      rw [← hky] at s1
      have HJ := Lib.hid (show ((f i).1).toNat = j by rw [hj0]; simp)
      have ks := kw.alloc kw.size (.cells #[.int .i64 (j : Int), .int .i64 ky] 133)
      have hSv := heap_alloc_new wr (.cells #[.int .i64 (j : Int), .int .i64 ky] 133)
      have lS := lt_of_block hSv
      obtain ⟨tv, pv, hM, hT, _⟩ := HS.out.below ks
      rcases hT with ⟨h0, _⟩ | ⟨tb, tof, tc, rfl, htb, htc⟩
      · omega
      have lM := lt_of_block hM
      obtain ⟨m0, m1, m2, m3, m4, m5⟩ := six hM
      have z0 := cell_of_block hSv 0
      have z1 := cell_of_block hSv 1
      obtain ⟨t0, t1, t2, t3, t4, t5, t6, t7⟩ := cells8 (htc j hj)
      have ij0 : (0 : Int) ≤ (j : Int) := by omega
      have ij1 : (j : Int) < (M.tn : Int) := by omega
      clear hky hsc hM hSv htc hj0
      have t0' : (wr.alloc (.cells #[.int .i64 (j : Int), .int .i64 ky] 133)).cell? ⟨tb, tof + j * 8, none⟩ = some (.int .i64 (M.t j).st) := t0
      obtain ⟨st, hst⟩ : ∃ st : Int, st = (M.t j).st := ⟨_, rfl⟩
      rw [← hst] at t0'
      clear t0 t1 t2 t3 t4 t5 t6 t7
      by_cases h5 : st = 5
      · have b5 : (st == 5) = true := by simpa using h5
        have HN := Lib.hid (show y + 1 = delsF M f (i + 1) by rw [delsF, HJ.out, ← hst, if_pos h5, HY.out])
        clear hst h5
        obtain ⟨C, hC⟩ : ∃ C : World → Prop, ∀ w', C w' ↔ (w'.cell? ⟨mb, 4, none⟩ = some (.slice (some ⟨tb, tof, none⟩) M.tn tc) ∧ w'.cell? ⟨wr.heap.size, 0, none⟩ = some (.int .i64 (j : Int)) ∧ w'.cell? ⟨wr.heap.size, 1, none⟩ = some (.int .i64 ky) ∧ w'.cell? ⟨tb, tof + j * 8, none⟩ = some (.int .i64 st) ∧ Below ((wr.alloc (.cells #[.int .i64 (j : Int), .int .i64 ky] 133))).heap.size ((wr.alloc (.cells #[.int .i64 (j : Int), .int .i64 ky] 133))) w') := ⟨_, fun _ => Iff.rfl⟩
        have HCin := Lib.hid (show ∀ w', Below ((wr.alloc (.cells #[.int .i64 (j : Int), .int .i64 ky] 133))).heap.size ((wr.alloc (.cells #[.int .i64 (j : Int), .int .i64 ky] 133))) w' → C w' from fun w' kd => (hC w').2 ⟨(kd.cell (p := ⟨mb, 4, none⟩) lM).trans m4, (kd.cell (p := ⟨wr.heap.size, 0, none⟩) lS).trans z0, (kd.cell (p := ⟨wr.heap.size, 1, none⟩) lS).trans z1, (kd.cell (p := ⟨tb, tof + j * 8, none⟩) htb).trans t0', kd⟩)
        have HC := Lib.hid hC
        clear hC
        go_wp2_with fail
        refine region_quietC (C := C) (by kernel_rfl) (by kernel_rfl) (HCin.out _ (Below.refl _ _).drew) ?_
        repeat (first
          | go_big_quiet_skip
          | (go_big_quiet_want; go_big_quiet_op; go_big_quiet_on)
          | (refine quiet_take (v := ?_) (by rfl) ?_ ?_
             rotate_left
             · intro w' hw'
               obtain ⟨q0, q1, q2, q3, hbel⟩ := (HC.out w').1 hw'
               go_simp
               first
                 | done
                 | exact rfl
             simp only [Act.put, List.setIfInBounds_toArray, List.set_cons_zero, List.set_cons_succ]))
        refine wpQuiet_nil ?_
        intro wq hwq
        obtain ⟨q0, q1, q2, q3, kd⟩ := (HC.out wq).1 hwq
        clear hwq HC HCin
        have kn := ks.trans (kd.mono ks.size)
        go_wp2
        exact ⟨⟨i + 1, _, by omega, by go_num, rfl, HN.out, kn⟩, by simp only [intOf]; omega⟩
      · have b5 : (st == 5) = false := beq_eq_false_iff_ne.2 h5
        have HN := Lib.hid (show y = delsF M f (i + 1) by rw [delsF, HJ.out, ← hst, if_neg h5, HY.out]; simp)
        clear hst h5
        obtain ⟨C, hC⟩ : ∃ C : World → Prop, ∀ w', C w' ↔ (w'.cell? ⟨mb, 4, none⟩ = some (.slice (some ⟨tb, tof, none⟩) M.tn tc) ∧ w'.cell? ⟨wr.heap.size, 0, none⟩ = some (.int .i64 (j : Int)) ∧ w'.cell? ⟨wr.heap.size, 1, none⟩ = some (.int .i64 ky) ∧ w'.cell? ⟨tb, tof + j * 8, none⟩ = some (.int .i64 st) ∧ Below ((wr.alloc (.cells #[.int .i64 (j : Int), .int .i64 ky] 133))).heap.size ((wr.alloc (.cells #[.int .i64 (j : Int), .int .i64 ky] 133))) w') := ⟨_, fun _ => Iff.rfl⟩
        have HCin := Lib.hid (show ∀ w', Below ((wr.alloc (.cells #[.int .i64 (j : Int), .int .i64 ky] 133))).heap.size ((wr.alloc (.cells #[.int .i64 (j : Int), .int .i64 ky] 133))) w' → C w' from fun w' kd => (hC w').2 ⟨(kd.cell (p := ⟨mb, 4, none⟩) lM).trans m4, (kd.cell (p := ⟨wr.heap.size, 0, none⟩) lS).trans z0, (kd.cell (p := ⟨wr.heap.size, 1, none⟩) lS).trans z1, (kd.cell (p := ⟨tb, tof + j * 8, none⟩) htb).trans t0', kd⟩)
        have HC := Lib.hid hC
        clear hC
        go_wp2_with fail
        refine region_quietC (C := C) (by kernel_rfl) (by kernel_rfl) (HCin.out _ (Below.refl _ _).drew) ?_
        repeat (first
          | go_big_quiet_skip
          | (go_big_quiet_want; go_big_quiet_op; go_big_quiet_on)
          | (refine quiet_take (v := ?_) (by rfl) ?_ ?_
             rotate_left
             · intro w' hw'
               obtain ⟨q0, q1, q2, q3, hbel⟩ := (HC.out w').1 hw'
               go_simp
               first
                 | done
                 | exact rfl
             simp only [Act.put, List.setIfInBounds_toArray, List.set_cons_zero, List.set_cons_succ]))
        refine wpQuiet_nil ?_
        intro wq hwq
        obtain ⟨q0, q1, q2, q3, kd⟩ := (HC.out wq).1 hwq
        clear hwq HC HCin
        have kn := ks.trans (kd.mono ks.size)
        go_wp2
        exact ⟨⟨i + 1, _, by omega, by go_num, rfl, HN.out, kn⟩, by simp only [intOf]; omega⟩
    · have hin : i = n := by omega
      have HIN := Lib.hid hin
      have hlt2 : ¬ (i : Int) < (n : Int) := by omega
      clear hin
      go_wp2
      go_ret
      exact ⟨ret_i64 (by rw [← HIN.out, HY.out]), kw⟩

set_option maxRecDepth 100000 in
set_option maxHeartbeats 8000000 in
theorem earliestAgrees_any {mb : Nat} {a b c : Int} {M : Me} {w : World} (htn : M.tn ≤ 1048576) (h : SeenAt w mb a b c M) {v : Value} {n : Nat} {f : Slots} (l e d : Int) (hn : n ≤ 1048576) (hr : RowAt w v n f) (hids : ∀ i, i < n → hasT M (f i).1 = true) :
    Calls Tryz.prog 130 #[ptrV mb, pxV v l e d] w fun x w' => x = .returned (.bool (allB (fun i => !ovB e (M.t ((f i).1).toNat)) n)) ∧ Below w.heap.size w w' := by
  obtain ⟨a1, c1, rfl⟩ := hr.form
  have k0 := (Below.refl w.heap.size w).alloc (Nat.le_refl _) (pxB (.slice a1 n c1) l e d)
  have hX := heap_alloc_new w (pxB (.slice a1 n c1) l e d)
  have HXB := Lib.hid hX
  have HR := Lib.hid hr
  have HS := Lib.hid h
  have HI := Lib.hid hids
  obtain ⟨x0, x1, x2, x3, _, _, _, _⟩ := four hX
  have lX0 := lt_of_block hX
  clear h hr hids hX
  go_enter Tryz.func130, Tryz.ntmps130
  go_wp2_with fail
  clear x0 x1 x2 x3
  go_loopw [10] (fun i wr => ∃ q : Nat, q ≤ n ∧ i = .int .i64 q ∧ Hid (allB (fun i => !ovB e (M.t ((f i).1).toNat)) q = true) ∧ Below (w.alloc (pxB (.slice a1 n c1) l e d)).heap.size (w.alloc (pxB (.slice a1 n c1) l e d)) wr) (fun i _ => n - (intOf i).toNat)
  case atStart => exact ⟨0, Nat.zero_le _, rfl, Lib.hid rfl, Below.refl _ _⟩
  case round =>
    obtain ⟨i, hi, rfl, hok, kx⟩ := hrel
    have kw := k0.trans (kx.mono k0.size)
    by_cases hlt : i < n
    · rcases HR.out with ⟨h0, _⟩ | ⟨sb, so, scap, ev, hsb, hsc⟩
      · omega
      injection ev with ev1 ev2 ev3
      subst ev1 ev3
      obtain ⟨s0, s1⟩ := hsc i hlt
      replace s0 := (kw.cell (p := ⟨sb, so + i * 2, none⟩) hsb).trans s0
      replace s1 := (kw.cell (p := ⟨sb, so + i * 2 + 1, none⟩) hsb).trans s1
      have i1 : (i : Int) < (n : Int) := by omega
      have i0 : (0 : Int) ≤ (i : Int) := by omega
      obtain ⟨j, hj0⟩ : ∃ j : Nat, (f i).1 = (j : Int) := ⟨((f i).1).toNat, by have := hasT_iff.1 (HI.out i hlt); omega⟩
      have hj : j < M.tn := by have := hasT_iff.1 (HI.out i hlt); omega
      obtain ⟨ky, hky⟩ : ∃ ky : Int, ky = (f i).2 := ⟨_, rfl⟩
      rw [hj0] at s0
      rw [← hky] at s1
      have HJ := Lib.hid (show ((f i).1).toNat = j by rw [hj0]; simp)
      have ks := kw.alloc kw.size (.cells #[.int .i64 (j : Int), .int .i64 ky] 133)
      have hSv := heap_alloc_new wr (.cells #[.int .i64 (j : Int), .int .i64 ky] 133)
      have lS := lt_of_block hSv
      obtain ⟨tv, pv, hM, hT, _⟩ := HS.out.below ks
      rcases hT with ⟨h0, _⟩ | ⟨tb, tof, tc, rfl, htb, htc⟩
      · omega
      have lM := lt_of_block hM
      obtain ⟨m0, m1, m2, m3, m4, m5⟩ := six hM
      have z0 := cell_of_block hSv 0
      have z1 := cell_of_block hSv 1
      obtain ⟨t0, t1, t2, t3, t4, t5, t6, t7⟩ := cells8 (htc j hj)
      have ij0 : (0 : Int) ≤ (j : Int) := by omega
      have ij1 : (j : Int) < (M.tn : Int) := by omega
      clear hky hsc hM hSv htc hj0
      have hXa := alloc_block (.cells #[.int .i64 (j : Int), .int .i64 ky] 133) (b_block kx HXB.out lX0)
      have lX := lt_of_block hXa
      obtain ⟨x0, x1, x2, x3, _, _, _, _⟩ := four hXa
      clear hXa
      cases ho : ovB e (M.t j)
      · have HN := Lib.hid (show allB (fun i => !ovB e (M.t ((f i).1).toNat)) (i + 1) = true by rw [allB, hok.out, Bool.true_and]; show (!ovB e (M.t ((f i).1).toNat)) = true; rw [HJ.out, ho]; rfl)
        have HO := Lib.hid ho
        clear ho
        obtain ⟨C, hC⟩ : ∃ C : World → Prop, ∀ w', C w' ↔ (w'.cell? ⟨mb, 4, none⟩ = some (.slice (some ⟨tb, tof, none⟩) M.tn tc) ∧ w'.cell? ⟨wr.heap.size, 0, none⟩ = some (.int .i64 (j : Int)) ∧ w'.cell? ⟨wr.heap.size, 1, none⟩ = some (.int .i64 ky) ∧ w'.cell? ⟨w.heap.size, 0, none⟩ = some (.int .i64 l) ∧ w'.cell? ⟨w.heap.size, 1, none⟩ = some (.slice (some ⟨sb, so, none⟩) n c1) ∧ w'.cell? ⟨w.heap.size, 2, none⟩ = some (.int .i64 e) ∧ w'.cell? ⟨w.heap.size, 3, none⟩ = some (.int .i64 d) ∧ w'.cell? ⟨tb, tof + j * 8, none⟩ = some (.int .i64 (M.t j).st) ∧ w'.cell? ⟨tb, tof + j * 8 + 1, none⟩ = some (.int .i64 (M.t j).wh) ∧ w'.cell? ⟨tb, tof + j * 8 + 2, none⟩ = some (.int .i64 (M.t j).nx) ∧ w'.cell? ⟨tb, tof + j * 8 + 3, none⟩ = some (.int .i64 (M.t j).pe) ∧ w'.cell? ⟨tb, tof + j * 8 + 4, none⟩ = some (.int .i64 (M.t j).pl) ∧ w'.cell? ⟨tb, tof + j * 8 + 5, none⟩ = some (.int .i64 (M.t j).ge) ∧ w'.cell? ⟨tb, tof + j * 8 + 6, none⟩ = some (.int .i64 (M.t j).ki) ∧ w'.cell? ⟨tb, tof + j * 8 + 7, none⟩ = some (.int .i64 (M.t j).ma) ∧ Below ((wr.alloc (.cells #[.int .i64 (j : Int), .int .i64 ky] 133))).heap.size ((wr.alloc (.cells #[.int .i64 (j : Int), .int .i64 ky] 133))) w') := ⟨_, fun _ => Iff.rfl⟩
        have HCin := Lib.hid (show ∀ w', Below ((wr.alloc (.cells #[.int .i64 (j : Int), .int .i64 ky] 133))).heap.size ((wr.alloc (.cells #[.int .i64 (j : Int), .int .i64 ky] 133))) w' → C w' from fun w' kd => (hC w').2 ⟨(kd.cell (p := ⟨mb, 4, none⟩) lM).trans m4, (kd.cell (p := ⟨wr.heap.size, 0, none⟩) lS).trans z0, (kd.cell (p := ⟨wr.heap.size, 1, none⟩) lS).trans z1, (kd.cell (p := ⟨w.heap.size, 0, none⟩) lX).trans x0, (kd.cell (p := ⟨w.heap.size, 1, none⟩) lX).trans x1, (kd.cell (p := ⟨w.heap.size, 2, none⟩) lX).trans x2, (kd.cell (p := ⟨w.heap.size, 3, none⟩) lX).trans x3, (kd.cell (p := ⟨tb, tof + j * 8, none⟩) htb).trans t0, (kd.cell (p := ⟨tb, tof + j * 8 + 1, none⟩) htb).trans t1, (kd.cell (p := ⟨tb, tof + j * 8 + 2, none⟩) htb).trans t2, (kd.cell (p := ⟨tb, tof + j * 8 + 3, none⟩) htb).trans t3, (kd.cell (p := ⟨tb, tof + j * 8 + 4, none⟩) htb).trans t4, (kd.cell (p := ⟨tb, tof + j * 8 + 5, none⟩) htb).trans t5, (kd.cell (p := ⟨tb, tof + j * 8 + 6, none⟩) htb).trans t6, (kd.cell (p := ⟨tb, tof + j * 8 + 7, none⟩) htb).trans t7, kd⟩)
        have HC := Lib.hid hC
        have HFn0 : ∀ W : World, Below ((wr.alloc (.cells #[.int .i64 (j : Int), .int .i64 ky] 133))).heap.size ((wr.alloc (.cells #[.int .i64 (j : Int), .int .i64 ky] 133))) W → Calls Tryz.prog 147 #[pxV (.slice (some ⟨sb, so, none⟩) n c1) l e d, tmV (M.t j)] W (fun e w'' => e = .returned (.bool false) ∧ Below W.heap.size W w'') := fun W hW => by have := overlooks_any (v := .slice (some ⟨sb, so, none⟩) n c1) l e d (M.t j) (w := W) ⟨_, _, rfl⟩; rw [HO.out] at this; exact this
        have HCall0 := Lib.hid (show ∀ w', C w' → Calls Tryz.prog 147 #[pxV (.slice (some ⟨sb, so, none⟩) n c1) l e d, tmV (M.t j)] w' (fun e w'' => e = .returned (.bool false) ∧ C w'') from fun w' hw' => (HFn0 w' ((HC.out w').1 hw').2.2.2.2.2.2.2.2.2.2.2.2.2.2.2).mono (fun e w'' hx => ⟨hx.1, HCin.out _ ((((HC.out w').1 hw').2.2.2.2.2.2.2.2.2.2.2.2.2.2.2).trans (hx.2.mono (((HC.out w').1 hw').2.2.2.2.2.2.2.2.2.2.2.2.2.2.2).size))⟩))
        clear hC HFn0
        go_wp2_with fail
        refine region_quietC (C := C) (by kernel_rfl) (by kernel_rfl) (HCin.out _ (Below.refl _ _).drew) ?_
        repeat (first
          | go_big_quiet_skip
          | (go_big_quiet_want; go_big_quiet_op; go_big_quiet_on)
          | (refine quiet_take (v := ?_) (by rfl) ?_ ?_
             rotate_left
             · intro w' hw'
               obtain ⟨q0, q1, q2, q3, q4, q5, q6, q7, q8, q9, q10, q11, q12, q13, q14, hbel⟩ := (HC.out w').1 hw'
               go_simp
               first
                 | done
                 | exact rfl
                 | exact HCall0.out w' hw'
             simp only [Act.put, List.setIfInBounds_toArray, List.set_cons_zero, List.set_cons_succ]))
        refine wpQuiet_nil ?_
        intro wq hwq
        obtain ⟨q0, q1, q2, q3, q4, q5, q6, q7, q8, q9, q10, q11, q12, q13, q14, kd⟩ := (HC.out wq).1 hwq
        clear hwq HCall0 HC HCin
        have kn := (kx.alloc kx.size (.cells #[.int .i64 (j : Int), .int .i64 ky] 133)).trans (kd.mono (Nat.le_trans kx.size (World.grownBy_alloc wr _ none).size))
        clear kx kw ks
        go_wp2
        exact ⟨⟨i + 1, by omega, by go_num, HN, kn⟩, by simp only [intOf]; omega⟩
      · have HBAD := Lib.hid (show allB (fun i => !ovB e (M.t ((f i).1).toNat)) n = false from allB_bad (i := i) (by show (!ovB e (M.t ((f i).1).toNat)) = false; rw [HJ.out, ho]; rfl) _ hlt)
        have HO := Lib.hid ho
        clear ho
        obtain ⟨C, hC⟩ : ∃ C : World → Prop, ∀ w', C w' ↔ (w'.cell? ⟨mb, 4, none⟩ = some (.slice (some ⟨tb, tof, none⟩) M.tn tc) ∧ w'.cell? ⟨wr.heap.size, 0, none⟩ = some (.int .i64 (j : Int)) ∧ w'.cell? ⟨wr.heap.size, 1, none⟩ = some (.int .i64 ky) ∧ w'.cell? ⟨w.heap.size, 0, none⟩ = some (.int .i64 l) ∧ w'.cell? ⟨w.heap.size, 1, none⟩ = some (.slice (some ⟨sb, so, none⟩) n c1) ∧ w'.cell? ⟨w.heap.size, 2, none⟩ = some (.int .i64 e) ∧ w'.cell? ⟨w.heap.size, 3, none⟩ = some (.int .i64 d) ∧ w'.cell? ⟨tb, tof + j * 8, none⟩ = some (.int .i64 (M.t j).st) ∧ w'.cell? ⟨tb, tof + j * 8 + 1, none⟩ = some (.int .i64 (M.t j).wh) ∧ w'.cell? ⟨tb, tof + j * 8 + 2, none⟩ = some (.int .i64 (M.t j).nx) ∧ w'.cell? ⟨tb, tof + j * 8 + 3, none⟩ = some (.int .i64 (M.t j).pe) ∧ w'.cell? ⟨tb, tof + j * 8 + 4, none⟩ = some (.int .i64 (M.t j).pl) ∧ w'.cell? ⟨tb, tof + j * 8 + 5, none⟩ = some (.int .i64 (M.t j).ge) ∧ w'.cell? ⟨tb, tof + j * 8 + 6, none⟩ = some (.int .i64 (M.t j).ki) ∧ w'.cell? ⟨tb, tof + j * 8 + 7, none⟩ = some (.int .i64 (M.t j).ma) ∧ Below ((wr.alloc (.cells #[.int .i64 (j : Int), .int .i64 ky] 133))).heap.size ((wr.alloc (.cells #[.int .i64 (j : Int), .int .i64 ky] 133))) w') := ⟨_, fun _ => Iff.rfl⟩
        have HCin := Lib.hid (show ∀ w', Below ((wr.alloc (.cells #[.int .i64 (j : Int), .int .i64 ky] 133))).heap.size ((wr.alloc (.cells #[.int .i64 (j : Int), .int .i64 ky] 133))) w' → C w' from fun w' kd => (hC w').2 ⟨(kd.cell (p := ⟨mb, 4, none⟩) lM).trans m4, (kd.cell (p := ⟨wr.heap.size, 0, none⟩) lS).trans z0, (kd.cell (p := ⟨wr.heap.size, 1, none⟩) lS).trans z1, (kd.cell (p := ⟨w.heap.size, 0, none⟩) lX).trans x0, (kd.cell (p := ⟨w.heap.size, 1, none⟩) lX).trans x1, (kd.cell (p := ⟨w.heap.size, 2, none⟩) lX).trans x2, (kd.cell (p := ⟨w.heap.size, 3, none⟩) lX).trans x3, (kd.cell (p := ⟨tb, tof + j * 8, none⟩) htb).trans t0, (kd.cell (p := ⟨tb, tof + j * 8 + 1, none⟩) htb).trans t1, (kd.cell (p := ⟨tb, tof + j * 8 + 2, none⟩) htb).trans t2, (kd.cell (p := ⟨tb, tof + j * 8 + 3, none⟩) htb).trans t3, (kd.cell (p := ⟨tb, tof + j * 8 + 4, none⟩) htb).trans t4, (kd.cell (p := ⟨tb, tof + j * 8 + 5, none⟩) htb).trans t5, (kd.cell (p := ⟨tb, tof + j * 8 + 6, none⟩) htb).trans t6, (kd.cell (p := ⟨tb, tof + j * 8 + 7, none⟩) htb).trans t7, kd⟩)
        have HC := Lib.hid hC
        have HFn0 : ∀ W : World, Below ((wr.alloc (.cells #[.int .i64 (j : Int), .int .i64 ky] 133))).heap.size ((wr.alloc (.cells #[.int .i64 (j : Int), .int .i64 ky] 133))) W → Calls Tryz.prog 147 #[pxV (.slice (some ⟨sb, so, none⟩) n c1) l e d, tmV (M.t j)] W (fun e w'' => e = .returned (.bool true) ∧ Below W.heap.size W w'') := fun W hW => by have := overlooks_any (v := .slice (some ⟨sb, so, none⟩) n c1) l e d (M.t j) (w := W) ⟨_, _, rfl⟩; rw [HO.out] at this; exact this
        have HCall0 := Lib.hid (show ∀ w', C w' → Calls Tryz.prog 147 #[pxV (.slice (some ⟨sb, so, none⟩) n c1) l e d, tmV (M.t j)] w' (fun e w'' => e = .returned (.bool true) ∧ C w'') from fun w' hw' => (HFn0 w' ((HC.out w').1 hw').2.2.2.2.2.2.2.2.2.2.2.2.2.2.2).mono (fun e w'' hx => ⟨hx.1, HCin.out _ ((((HC.out w').1 hw').2.2.2.2.2.2.2.2.2.2.2.2.2.2.2).trans (hx.2.mono (((HC.out w').1 hw').2.2.2.2.2.2.2.2.2.2.2.2.2.2.2).size))⟩))
        clear hC HFn0
        go_wp2_with fail
        refine region_quietC (C := C) (by kernel_rfl) (by kernel_rfl) (HCin.out _ (Below.refl _ _).drew) ?_
        repeat (first
          | go_big_quiet_skip
          | (go_big_quiet_want; go_big_quiet_op; go_big_quiet_on)
          | (refine quiet_take (v := ?_) (by rfl) ?_ ?_
             rotate_left
             · intro w' hw'
               obtain ⟨q0, q1, q2, q3, q4, q5, q6, q7, q8, q9, q10, q11, q12, q13, q14, hbel⟩ := (HC.out w').1 hw'
               go_simp
               first
                 | done
                 | exact rfl
                 | exact HCall0.out w' hw'
             simp only [Act.put, List.setIfInBounds_toArray, List.set_cons_zero, List.set_cons_succ]))
        refine wpQuiet_nil ?_
        intro wq hwq
        obtain ⟨q0, q1, q2, q3, q4, q5, q6, q7, q8, q9, q10, q11, q12, q13, q14, kd⟩ := (HC.out wq).1 hwq
        clear hwq HCall0 HC HCin
        go_wp2
        go_ret
        exact ⟨ret_bool' HBAD.out.symm, ks.trans (kd.mono ks.size)⟩
    · have hin : i = n := by omega
      have HIN := Lib.hid hin
      have hlt2 : ¬ (i : Int) < (n : Int) := by omega
      clear hin
      go_wp2
      go_ret
      exact ⟨ret_bool' (by rw [← HIN.out, hok.out]), kw⟩

/-- does the timer i stand where it says? -/
def placeOkB (M : Me) (i : Nat) : Bool := (M.t i).pl == -1 || !decide (findFrom (M.p (M.t i).pl.toNat).f (M.p (M.t i).pl.toNat).n (i : Int) 0 < 0)
set_option maxRecDepth 100000 in
set_option maxHeartbeats 8000000 in
theorem placesAgree_any {mb : Nat} {a b c : Int} {M : Me} {w : World} (hs : sizeM M ≤ 1048576) (h : SeenAt w mb a b c M) (hpl : ∀ i, i < M.tn → (M.t i).pl = -1 ∨ 0 ≤ (M.t i).pl ∧ (M.t i).pl < (M.pn : Int)) :
    Calls Tryz.prog 131 #[ptrV mb] w fun e w' => e = .returned (.bool (allB (placeOkB M) M.tn)) ∧ Below w.heap.size w w' := by
  obtain ⟨htn, hpn, hsl, hns⟩ := sizeM_le hs
  have HS := Lib.hid h
  have HPL := Lib.hid hpl
  have HNS := Lib.hid hns
  obtain ⟨tv, pv, hM0, hT0, hP0⟩ := h
  obtain ⟨ta, tc, htv⟩ := hT0.form
  obtain ⟨qa, qc, hpv⟩ := hP0.form
  subst htv hpv
  have lM0 := lt_of_block hM0
  have HM0 := Lib.hid hM0
  have HT0 := Lib.hid hT0
  have HP0 := Lib.hid hP0
  obtain ⟨n0, n1, n2, n3, n4, n5⟩ := six hM0
  clear hpl hns hsl hM0 hT0 hP0
  go_enter Tryz.func131, Tryz.ntmps131
  go_wp2_with fail
  clear n0 n1 n2 n3 n4 n5
  go_loopw [10] (fun i wr => ∃ q : Nat, q ≤ M.tn ∧ i = .int .i64 q ∧ Hid (allB (placeOkB M) q = true) ∧ Below w.heap.size w wr) (fun i _ => M.tn - (intOf i).toNat)
  case atStart => exact ⟨0, Nat.zero_le _, rfl, Lib.hid rfl, Below.refl _ _⟩
  case round =>
    obtain ⟨i, hi, rfl, hok, kw⟩ := hrel
    by_cases hlt : i < M.tn
    · rcases HT0.out with ⟨h0, _⟩ | ⟨tb, tof, tcap, ev, htb, htc⟩
      · omega
      injection ev with ev1 ev2 ev3
      subst ev1 ev3
      have i1 : (i : Int) < (M.tn : Int) := by omega
      have i0 : (0 : Int) ≤ (i : Int) := by omega
      obtain ⟨t0, t1, t2, t3, t4, t5, t6, t7⟩ := cells8 (w := wr) (b := tb) (o := tof + i * 8) (t := M.t i) (fun q hq => (kw.cell (p := ⟨tb, tof + i * 8 + q, none⟩) htb).trans (htc i hlt q hq))
      have ks := kw.alloc kw.size (.cells (tmCells (M.t i)) 90)
      have hSv := heap_alloc_new wr (.cells (tmCells (M.t i)) 90)
      have lS := lt_of_block hSv
      have hM := b_block ks HM0.out lM0
      have lM := lt_of_block hM
      obtain ⟨m0, m1, m2, m3, m4, m5⟩ := six hM
      obtain ⟨z0, z1, z2, z3, z4, z5, z6, z7⟩ := tm_cells hSv
      clear hSv hM htc
      by_cases hp1 : (M.t i).pl = -1
      · have HN := Lib.hid (show allB (placeOkB M) (i + 1) = true by rw [allB, hok.out, Bool.true_and]; unfold placeOkB; rw [hp1]; rfl)
        obtain ⟨T, hTe⟩ : ∃ T : Tm, T = M.t i := ⟨_, rfl⟩
        rw [← hTe] at t0 t1 t2 t3 t4 t5 t6 t7 z0 z1 z2 z3 z4 z5 z6 z7 hp1 ks lS lM m0 m1 m2 m3 m4 m5
        have bp : (T.pl != -1) = false := by rw [hp1]; rfl
        have HTe := Lib.hid hTe
        clear hp1 hTe
        obtain ⟨C, hC⟩ : ∃ C : World → Prop, ∀ w', C w' ↔ (w'.cell? ⟨mb, 5, none⟩ = some (.slice qa M.pn qc) ∧ w'.cell? ⟨wr.heap.size, 0, none⟩ = some (.int .i64 T.st) ∧ w'.cell? ⟨wr.heap.size, 1, none⟩ = some (.int .i64 T.wh) ∧ w'.cell? ⟨wr.heap.size, 2, none⟩ = some (.int .i64 T.nx) ∧ w'.cell? ⟨wr.heap.size, 3, none⟩ = some (.int .i64 T.pe) ∧ w'.cell? ⟨wr.heap.size, 4, none⟩ = some (.int .i64 T.pl) ∧ w'.cell? ⟨wr.heap.size, 5, none⟩ = some (.int .i64 T.ge) ∧ w'.cell? ⟨wr.heap.size, 6, none⟩ = some (.int .i64 T.ki) ∧ w'.cell? ⟨wr.heap.size, 7, none⟩ = some (.int .i64 T.ma) ∧ Below ((wr.alloc (.cells (tmCells T) 90))).heap.size ((wr.alloc (.cells (tmCells T) 90))) w') := ⟨_, fun _ => Iff.rfl⟩
        have HCin := Lib.hid (show ∀ w', Below ((wr.alloc (.cells (tmCells T) 90))).heap.size ((wr.alloc (.cells (tmCells T) 90))) w' → C w' from fun w' kd => (hC w').2 ⟨(kd.cell (p := ⟨mb, 5, none⟩) lM).trans m5, (kd.cell (p := ⟨wr.heap.size, 0, none⟩) lS).trans z0, (kd.cell (p := ⟨wr.heap.size, 1, none⟩) lS).trans z1, (kd.cell (p := ⟨wr.heap.size, 2, none⟩) lS).trans z2, (kd.cell (p := ⟨wr.heap.size, 3, none⟩) lS).trans z3, (kd.cell (p := ⟨wr.heap.size, 4, none⟩) lS).trans z4, (kd.cell (p := ⟨wr.heap.size, 5, none⟩) lS).trans z5, (kd.cell (p := ⟨wr.heap.size, 6, none⟩) lS).trans z6, (kd.cell (p := ⟨wr.heap.size, 7, none⟩) lS).trans z7, kd⟩)
        have HC := Lib.hid hC
        clear hC
        go_wp2_with fail
        refine region_quietC (C := C) (by kernel_rfl) (by kernel_rfl) (HCin.out _ (Below.refl _ _).drew) ?_
        repeat (first
          | go_big_quiet_skip
          | (go_big_quiet_want; go_big_quiet_op; go_big_quiet_on)
          | (refine quiet_take (v := ?_) (by rfl) ?_ ?_
             rotate_left
             · intro w' hw'
               obtain ⟨q0, q1, q2, q3, q4, q5, q6, q7, q8, hbel⟩ := (HC.out w').1 hw'
               go_simp
               first
                 | done
                 | exact rfl
             simp only [Act.put, List.setIfInBounds_toArray, List.set_cons_zero, List.set_cons_succ]))
        refine wpQuiet_nil ?_
        intro wq hwq
        obtain ⟨q0, q1, q2, q3, q4, q5, q6, q7, q8, kd⟩ := (HC.out wq).1 hwq
        clear hwq HC HCin
        have kn := ks.trans (kd.mono ks.size)
        go_wp2
        exact ⟨⟨i + 1, by omega, by go_num, HN, kn⟩, by simp only [intOf]; omega⟩
      · have hp2 : 0 ≤ (M.t i).pl ∧ (M.t i).pl < (M.pn : Int) := by
          rcases HPL.out i hlt with h | h
          · exact absurd h hp1
          · exact h
        have hgn : (M.t i).pl.toNat < M.pn := by omega
        rcases HP0.out with ⟨h0, _⟩ | ⟨pb, po, pcap, ev, hpb, hpc⟩
        · omega
        injection ev with ev1 ev2 ev3
        subst ev1 ev3
        have hpcg := hpc _ hgn
        have hng := HNS.out _ hgn
        have hplB := Lib.hid (show placeOkB M i = !decide (findFrom (M.p (M.t i).pl.toNat).f (M.p (M.t i).pl.toNat).n (i : Int) 0 < 0) by unfold placeOkB; rw [show ((M.t i).pl == -1) = false from beq_eq_false_iff_ne.2 hp1, Bool.false_or])
        obtain ⟨T, hTe⟩ : ∃ T : Tm, T = M.t i := ⟨_, rfl⟩
        rw [← hTe] at t0 t1 t2 t3 t4 t5 t6 t7 z0 z1 z2 z3 z4 z5 z6 z7 hp1 hp2 ks lS lM m0 m1 m2 m3 m4 m5 hpcg hng hplB
        obtain ⟨G, hG⟩ : ∃ G : Pc, G = M.p T.pl.toNat := ⟨_, rfl⟩
        rw [← hG] at hpcg hng hplB
        obtain ⟨xa, xc, p0, p1, p2, p3, hrow⟩ := hpcg
        replace p1 := (ks.cell (p := ⟨pb, po + T.pl.toNat * 4 + 1, none⟩) hpb).trans p1
        have lP := Nat.lt_of_lt_of_le hpb ks.size
        obtain ⟨r, hr⟩ : ∃ r : Int, r = findFrom G.f G.n (i : Int) 0 := ⟨_, rfl⟩
        have HF := Lib.hid (fun (W : World) (hW : Below w.heap.size w W) => by have := iFindSlot_holds _ _ G.f (i : Int) W hng (hrow.below hW); rw [show findM G.f G.n (i : Int) = r from hr.symm] at this; exact this)
        have HB := Lib.hid (show placeOkB M i = !decide (r < 0) by rw [hplB.out, hr])
        have bp : (T.pl != -1) = true := by rw [bne, beq_eq_false_iff_ne.2 hp1]; rfl
        obtain ⟨g0, g1⟩ := hp2
        have HTe := Lib.hid hTe
        have HG := Lib.hid hG
        clear hr hrow hpc p0 p2 p3 hp1 hTe hG hplB hgn
        cases hr0 : decide (r < 0)
        · have HN := Lib.hid (show allB (placeOkB M) (i + 1) = true by rw [allB, hok.out, Bool.true_and, HB.out, hr0]; rfl)
          obtain ⟨C, hC⟩ : ∃ C : World → Prop, ∀ w', C w' ↔ (w'.cell? ⟨mb, 5, none⟩ = some (.slice (some ⟨pb, po, none⟩) M.pn qc) ∧ w'.cell? ⟨pb, po + T.pl.toNat * 4 + 1, none⟩ = some (.slice xa G.n xc) ∧ w'.cell? ⟨wr.heap.size, 0, none⟩ = some (.int .i64 T.st) ∧ w'.cell? ⟨wr.heap.size, 1, none⟩ = some (.int .i64 T.wh) ∧ w'.cell? ⟨wr.heap.size, 2, none⟩ = some (.int .i64 T.nx) ∧ w'.cell? ⟨wr.heap.size, 3, none⟩ = some (.int .i64 T.pe) ∧ w'.cell? ⟨wr.heap.size, 4, none⟩ = some (.int .i64 T.pl) ∧ w'.cell? ⟨wr.heap.size, 5, none⟩ = some (.int .i64 T.ge) ∧ w'.cell? ⟨wr.heap.size, 6, none⟩ = some (.int .i64 T.ki) ∧ w'.cell? ⟨wr.heap.size, 7, none⟩ = some (.int .i64 T.ma) ∧ Below ((wr.alloc (.cells (tmCells T) 90))).heap.size ((wr.alloc (.cells (tmCells T) 90))) w') := ⟨_, fun _ => Iff.rfl⟩
          have HCin := Lib.hid (show ∀ w', Below ((wr.alloc (.cells (tmCells T) 90))).heap.size ((wr.alloc (.cells (tmCells T) 90))) w' → C w' from fun w' kd => (hC w').2 ⟨(kd.cell (p := ⟨mb, 5, none⟩) lM).trans m5, (kd.cell (p := ⟨pb, po + T.pl.toNat * 4 + 1, none⟩) lP).trans p1, (kd.cell (p := ⟨wr.heap.size, 0, none⟩) lS).trans z0, (kd.cell (p := ⟨wr.heap.size, 1, none⟩) lS).trans z1, (kd.cell (p := ⟨wr.heap.size, 2, none⟩) lS).trans z2, (kd.cell (p := ⟨wr.heap.size, 3, none⟩) lS).trans z3, (kd.cell (p := ⟨wr.heap.size, 4, none⟩) lS).trans z4, (kd.cell (p := ⟨wr.heap.size, 5, none⟩) lS).trans z5, (kd.cell (p := ⟨wr.heap.size, 6, none⟩) lS).trans z6, (kd.cell (p := ⟨wr.heap.size, 7, none⟩) lS).trans z7, kd⟩)
          have HC := Lib.hid hC
          have HFn0 : ∀ W : World, Below ((wr.alloc (.cells (tmCells T) 90))).heap.size ((wr.alloc (.cells (tmCells T) 90))) W → Calls Tryz.prog 148 #[.slice xa G.n xc, .int .i64 (i : Int)] W (fun e w'' => e = .returned (.int .i64 r) ∧ Below W.heap.size W w'') := fun W hW => HF.out W (ks.trans (hW.mono ks.size))
          have HCall0 := Lib.hid (show ∀ w', C w' → Calls Tryz.prog 148 #[.slice xa G.n xc, .int .i64 (i : Int)] w' (fun e w'' => e = .returned (.int .i64 r) ∧ C w'') from fun w' hw' => (HFn0 w' ((HC.out w').1 hw').2.2.2.2.2.2.2.2.2.2).mono (fun e w'' hx => ⟨hx.1, HCin.out _ ((((HC.out w').1 hw').2.2.2.2.2.2.2.2.2.2).trans (hx.2.mono (((HC.out w').1 hw').2.2.2.2.2.2.2.2.2.2).size))⟩))
          clear hC HFn0
          go_wp2_with fail
          refine region_quietC (C := C) (by kernel_rfl) (by kernel_rfl) (HCin.out _ (Below.refl _ _).drew) ?_
          repeat (first
            | go_big_quiet_skip
            | (go_big_quiet_want; go_big_quiet_op; go_big_quiet_on)
            | (refine quiet_take (v := ?_) (by rfl) ?_ ?_
               rotate_left
               · intro w' hw'
                 obtain ⟨q0, q1, q2, q3, q4, q5, q6, q7, q8, q9, hbel⟩ := (HC.out w').1 hw'
                 go_simp
                 first
                   | done
                   | exact rfl
                   | exact HCall0.out w' hw'
               simp only [Act.put, List.setIfInBounds_toArray, List.set_cons_zero, List.set_cons_succ]))
          refine wpQuiet_nil ?_
          intro wq hwq
          obtain ⟨q0, q1, q2, q3, q4, q5, q6, q7, q8, q9, kd⟩ := (HC.out wq).1 hwq
          clear hwq HCall0 HC HCin
          have kn := ks.trans (kd.mono ks.size)
          go_wp2
          exact ⟨⟨i + 1, by omega, by go_num, HN, kn⟩, by simp only [intOf]; omega⟩
        · have HBAD := Lib.hid (show allB (placeOkB M) M.tn = false from allB_bad (i := i) (by rw [HB.out, hr0]; rfl) _ hlt)
          obtain ⟨C, hC⟩ : ∃ C : World → Prop, ∀ w', C w' ↔ (w'.cell? ⟨mb, 5, none⟩ = some (.slice (some ⟨pb, po, none⟩) M.pn qc) ∧ w'.cell? ⟨pb, po + T.pl.toNat * 4 + 1, none⟩ = some (.slice xa G.n xc) ∧ w'.cell? ⟨wr.heap.size, 0, none⟩ = some (.int .i64 T.st) ∧ w'.cell? ⟨wr.heap.size, 1, none⟩ = some (.int .i64 T.wh) ∧ w'.cell? ⟨wr.heap.size, 2, none⟩ = some (.int .i64 T.nx) ∧ w'.cell? ⟨wr.heap.size, 3, none⟩ = some (.int .i64 T.pe) ∧ w'.cell? ⟨wr.heap.size, 4, none⟩ = some (.int .i64 T.pl) ∧ w'.cell? ⟨wr.heap.size, 5, none⟩ = some (.int .i64 T.ge) ∧ w'.cell? ⟨wr.heap.size, 6, none⟩ = some (.int .i64 T.ki) ∧ w'.cell? ⟨wr.heap.size, 7, none⟩ = some (.int .i64 T.ma) ∧ Below ((wr.alloc (.cells (tmCells T) 90))).heap.size ((wr.alloc (.cells (tmCells T) 90))) w') := ⟨_, fun _ => Iff.rfl⟩
          have HCin := Lib.hid (show ∀ w', Below ((wr.alloc (.cells (tmCells T) 90))).heap.size ((wr.alloc (.cells (tmCells T) 90))) w' → C w' from fun w' kd => (hC w').2 ⟨(kd.cell (p := ⟨mb, 5, none⟩) lM).trans m5, (kd.cell (p := ⟨pb, po + T.pl.toNat * 4 + 1, none⟩) lP).trans p1, (kd.cell (p := ⟨wr.heap.size, 0, none⟩) lS).trans z0, (kd.cell (p := ⟨wr.heap.size, 1, none⟩) lS).trans z1, (kd.cell (p := ⟨wr.heap.size, 2, none⟩) lS).trans z2, (kd.cell (p := ⟨wr.heap.size, 3, none⟩) lS).trans z3, (kd.cell (p := ⟨wr.heap.size, 4, none⟩) lS).trans z4, (kd.cell (p := ⟨wr.heap.size, 5, none⟩) lS).trans z5, (kd.cell (p := ⟨wr.heap.size, 6, none⟩) lS).trans z6, (kd.cell (p := ⟨wr.heap.size, 7, none⟩) lS).trans z7, kd⟩)
          have HC := Lib.hid hC
          have HFn0 : ∀ W : World, Below ((wr.alloc (.cells (tmCells T) 90))).heap.size ((wr.alloc (.cells (tmCells T) 90))) W → Calls Tryz.prog 148 #[.slice xa G.n xc, .int .i64 (i : Int)] W (fun e w'' => e = .returned (.int .i64 r) ∧ Below W.heap.size W w'') := fun W hW => HF.out W (ks.trans (hW.mono ks.size))
          have HCall0 := Lib.hid (show ∀ w', C w' → Calls Tryz.prog 148 #[.slice xa G.n xc, .int .i64 (i : Int)] w' (fun e w'' => e = .returned (.int .i64 r) ∧ C w'') from fun w' hw' => (HFn0 w' ((HC.out w').1 hw').2.2.2.2.2.2.2.2.2.2).mono (fun e w'' hx => ⟨hx.1, HCin.out _ ((((HC.out w').1 hw').2.2.2.2.2.2.2.2.2.2).trans (hx.2.mono (((HC.out w').1 hw').2.2.2.2.2.2.2.2.2.2).size))⟩))
          clear hC HFn0
          go_wp2_with fail
          refine region_quietC (C := C) (by kernel_rfl) (by kernel_rfl) (HCin.out _ (Below.refl _ _).drew) ?_
          repeat (first
            | go_big_quiet_skip
            | (go_big_quiet_want; go_big_quiet_op; go_big_quiet_on)
            | (refine quiet_take (v := ?_) (by rfl) ?_ ?_
               rotate_left
               · intro w' hw'
                 obtain ⟨q0, q1, q2, q3, q4, q5, q6, q7, q8, q9, hbel⟩ := (HC.out w').1 hw'
                 go_simp
                 first
                   | done
                   | exact rfl
                   | exact HCall0.out w' hw'
               simp only [Act.put, List.setIfInBounds_toArray, List.set_cons_zero, List.set_cons_succ]))
          refine wpQuiet_nil ?_
          intro wq hwq
          obtain ⟨q0, q1, q2, q3, q4, q5, q6, q7, q8, q9, kd⟩ := (HC.out wq).1 hwq
          clear hwq HCall0 HC HCin
          go_wp2
          go_ret
          exact ⟨ret_bool' HBAD.out.symm, ks.trans (kd.mono ks.size)⟩
    · have hin : i = M.tn := by omega
      have HIN := Lib.hid hin
      have hlt2 : ¬ (i : Int) < (M.tn : Int) := by omega
      clear hin
      go_wp2
      go_ret
      exact ⟨ret_bool' (by rw [← HIN.out, hok.out]), kw⟩

end Go.Proofs.YtflekodaiejflaaGreat

/-
  The program's generic list that is told what is less (chapter 2), at slots: made from a list; is it in order?
-/
namespace Go.Proofs.YtflekodaiejflaaGreat
open Go.RowKit Go.Joins
set_option linter.unusedVariables false
set_option linter.unusedSimpArgs false

/-- a heap made from a list -/
def NewHeap (n : Nat) (f : Slots) (w : World) (e : Ending) (w' : World) : Prop := ∃ v, e = .returned (heapV v) ∧ OwnRow w' w.heap.size v n f ∧ Below w.heap.size w w'

set_option maxRecDepth 100000 in
set_option maxHeartbeats 1000000 in
theorem heapFrom_any {v : Value} {n : Nat} {f : Slots} {w : World} (hn : n ≤ 1048576) (h : RowAt w v n f) :
    Calls Tryz.prog 135 #[v, dueV] w (NewHeap n f w) := by
  have k0 := (Below.refl w.heap.size w).alloc (Nat.le_refl _) (.cells #[.slice none 0 0, .nilFunc] 158)
  have hsz : (w.alloc (.cells #[.slice none 0 0, .nilFunc] 158)).heap.size = w.heap.size + 1 := by simp
  have HB := Lib.hid (heap_alloc_new w (.cells #[.slice none 0 0, .nilFunc] 158))
  have h0 := h.below k0
  have H := Lib.hid (h0.below ((Below.refl _ _).alloc (Nat.le_refl _) (.cells #[] 133)))
  have ho := Lib.hid (World.ownsRow_made (w.alloc (.cells #[.slice none 0 0, .nilFunc] 158)) (base := (w.alloc (.cells #[.slice none 0 0, .nilFunc] 158)).heap.size) (e := 133) (size := 2) #[] 0 (Nat.le_refl _) (Nat.zero_le _) rfl)
  have k1 := k0.alloc (Nat.le_of_lt (show w.heap.size < (w.alloc (.cells #[.slice none 0 0, .nilFunc] 158)).heap.size by simp)) (.cells #[] 133)
  have hB1 : w.heap.size + 1 ≤ ((w.alloc (.cells #[.slice none 0 0, .nilFunc] 158)).alloc (.cells #[] 133)).heap.size := by simp
  rw [hsz] at ho
  clear h h0
  go_enter Tryz.func135, Tryz.ntmps135
  go_wp2_with (first | (at_builtin; refine wpList_append_slots rfl (.tmp 5) (.tmp 6) rfl (w.heap.size + 1) (.slice (some ⟨w.heap.size + 1, 0, none⟩) 0 0) 0 f rfl ho.out v n f rfl H.out (by omega) hB1 ?_; intro v' w' hown hg _; rw [append_zero, Nat.zero_add] at hown; have hO := own_of_row hown; clear hown; obtain ⟨a', cap', hvv⟩ := hO.row.form; subst hvv; have hkk := b_grown hg (Nat.le_refl _) hB1; have hbl := (hkk.block _ (Nat.lt_succ_self _)).trans ((Below.heap_alloc _ (.cells #[] 133) w.heap.size (by omega)).trans HB.out); have c0 := cell_of_block hbl 0; have c1 := cell_of_block hbl 1; have g0 := unfrozen_of_block hbl 0; have g1 := unfrozen_of_block hbl 1))
  have hO2 := ((hO.set (Nat.lt_succ_self _) 0 (.slice a' n cap')).set (Nat.lt_succ_self _) 1 dueV).mono (Nat.le_succ _)
  exact bodyPost_ret (v := heapV (.slice a' n cap')) (by simp [results, Tryz.results135, go_sem, c0, c1]) rfl
    ⟨.slice a' n cap', rfl, hO2, ((k1.trans (hkk.mono (Nat.le_succ _))).setCell (p := ⟨w.heap.size, 0, none⟩) (Nat.le_refl _) _).setCell (p := ⟨w.heap.size, 1, none⟩) (Nat.le_refl _) _⟩

end Go.Proofs.YtflekodaiejflaaGreat

/-
  The program's generic list that is told what is less (chapter 2), at slots: in order, raised, sunk.
-/
namespace Go.Proofs.YtflekodaiejflaaGreat
open Go.RowKit Go.Joins
set_option linter.unusedVariables false
set_option linter.unusedSimpArgs false

set_option maxRecDepth 100000 in
set_option maxHeartbeats 1000000 in
theorem hInOrder_any {v : Value} {n : Nat} {f : Slots} {w : World} (hn : n ≤ 1048576) (h : RowAt w v n f) :
    Calls Tryz.prog 156 #[heapV v] w fun e w' => e = .returned (.bool (heapFrom f n 1)) ∧ Below w.heap.size w w' := by
  obtain ⟨a, cap, hv⟩ := h.form
  have hv2 : ∃ a cap, v = .slice a n cap := ⟨a, cap, hv⟩
  have k0 := (Below.refl w.heap.size w).alloc (Nat.le_refl _) (.cells #[v, dueV] 158)
  have H := Lib.hid (h.below k0)
  have HB := Lib.hid (heap_alloc_new w (.cells #[v, dueV] 158))
  have hs0 : w.heap.size < (w.alloc (.cells #[v, dueV] 158)).heap.size := by simp
  clear h
  subst hv
  go_enter Tryz.func156, Tryz.ntmps156
  go_wp2_with fail
  go_loopw [3] (fun i wi => ∃ k : Nat, 1 ≤ k ∧ i = .int .i64 k ∧ k ≤ n + 1 ∧ Below (w.alloc (.cells #[.slice a n cap, dueV] 158)).heap.size (w.alloc (.cells #[.slice a n cap, dueV] 158)) wi ∧ Hid (heapFrom f n 1 = heapFrom f n k)) (fun i _ => n + 1 - (intOf i).toNat)
  case atStart => exact ⟨1, Nat.le_refl _, rfl, by omega, Below.refl _ _, Lib.hid rfl⟩
  case round =>
    obtain ⟨k, hk1, rfl, hkn, hbi, hf⟩ := hrel
    have hBi := b_block hbi HB.out hs0
    have c0 := cell_of_block hBi 0
    have c1 := cell_of_block hBi 1
    have hri := H.out.below hbi
    go_wp2_with fail
    go_at_call 152; refine (hSize_any (Nat.le_succ_of_le hn) hv2).mono ?_; rintro e w1 ⟨rfl, hb⟩
    have hB1 := b_block hb hBi (Nat.lt_of_lt_of_le hs0 hbi.size)
    have d0 : w1.cell? ⟨w.heap.size, 0, none⟩ = some (.slice a n cap) := cell_of_block hB1 0
    have d1 : w1.cell? ⟨w.heap.size, 1, none⟩ = some dueV := cell_of_block hB1 1
    have hl1 := lt_of_block hB1
    have hr1 := hri.below hb
    have hb1 := hbi.trans (hb.mono hbi.size)
    clear hri hB1 hbi c0 c1 hb hBi
    by_cases hlt : k < n
    · obtain ⟨p, hp⟩ : ∃ p : Nat, p = (k - 1) / 4 := ⟨_, rfl⟩
      have e2 : ((k : Int) - 1).tdiv 4 = (p : Int) := by
        rw [hp, show ((k : Int) - 1) = ((k - 1 : Nat) : Int) by omega, Int.tdiv_eq_ediv_of_nonneg (by omega)]; omega
      have b1 : p < n := by omega
      have b2 : (k : Int) < (n : Int) := by omega
      have p1 : -9223372036854775808 < (k : Int) := by omega
      have p2 : (k : Int) < 9223372036854775808 := by omega
      by_cases hlo : (f k).2 < (f p).2
      · have hd : decide ((f k).2 < (f p).2) = true := by simpa using hlo
        have HF := Lib.hid (show heapFrom f n 1 = false by rw [hf.out, heapFrom_bad hlt (hp ▸ hlo)])
        clear hlo hf hp
        go_wp2_with fail
        go_region_held3 (fun w' => w'.cell? ⟨w.heap.size, 0, none⟩ = some (.slice a n cap) ∧ w'.cell? ⟨w.heap.size, 1, none⟩ = some dueV)
          (first | exact ⟨d0, d1⟩ | exact ⟨y0, y1⟩ | go_keep)
          (first
            | (go_at_call 161; refine (parentOf_any _ _ p1 p2).mono ?_; rw [e2]; rintro e w' ⟨rfl, rfl⟩)
            | (go_at_call 160; refine (hLess_is true hd (Nat.le_succ_of_le hn) hlt b1 hr1.drew).mono ?_; rintro e w2 ⟨rfl, hb⟩
               have y0 := (hb.cell (p := ⟨w.heap.size, 0, none⟩) hl1).trans d0; have y1 := (hb.cell (p := ⟨w.heap.size, 1, none⟩) hl1).trans d1
               have hb2 := hb1.drew.trans (hb.mono hb1.drew.size)))
        all_goals
          clear d0 d1 y0 y1 hr1 hb1 hb
          go_wp2
          go_ret
          exact ⟨ret_bool HF.out.symm, k0.trans (hb2.mono k0.size)⟩
      · have hd : decide ((f k).2 < (f p).2) = false := by simpa using hlo
        have HF := Lib.hid (hf.out.trans (heapFrom_good hlt (hp ▸ hlo)))
        clear hlo hf hp
        go_wp2_with fail
        go_region_held3 (fun w' => w'.cell? ⟨w.heap.size, 0, none⟩ = some (.slice a n cap) ∧ w'.cell? ⟨w.heap.size, 1, none⟩ = some dueV)
          (first | exact ⟨d0, d1⟩ | exact ⟨y0, y1⟩ | go_keep)
          (first
            | (go_at_call 161; refine (parentOf_any _ _ p1 p2).mono ?_; rw [e2]; rintro e w' ⟨rfl, rfl⟩)
            | (go_at_call 160; refine (hLess_is false hd (Nat.le_succ_of_le hn) hlt b1 hr1.drew).mono ?_; rintro e w2 ⟨rfl, hb⟩
               have y0 := (hb.cell (p := ⟨w.heap.size, 0, none⟩) hl1).trans d0; have y1 := (hb.cell (p := ⟨w.heap.size, 1, none⟩) hl1).trans d1
               have hb2 := hb1.drew.trans (hb.mono hb1.drew.size)))
        all_goals
          clear d0 d1 y0 y1 hr1 hb1 hb
          go_wp2
          exact ⟨⟨k + 1, by omega, by go_num, by omega, hb2, HF⟩, by simp [intOf]; omega⟩
    · have HF := Lib.hid (hf.out.trans (heapFrom_out hlt))
      clear hf
      go_wp2
      go_ret
      exact ⟨ret_bool HF.out.symm, k0.trans (hb1.mono k0.size)⟩

end Go.Proofs.YtflekodaiejflaaGreat
