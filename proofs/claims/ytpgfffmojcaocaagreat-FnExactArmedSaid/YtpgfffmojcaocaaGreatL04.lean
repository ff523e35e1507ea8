/-
  The program's generic list that is told what is less (chapter 2), at slots: raised.
-/
import Derived.Test.YtpgfffmojcaocaaGreatL03
import Derived.Test.YtpgfffmojcaocaaGreatL00
import Derived.Test.YtpgfffmojcaocaaGreatL01
import Derived.Test.YtpgfffmojcaocaaGreatL02
import Derived.OpenShut
import Derived.ChangeOld
namespace Go.Proofs.YtpgfffmojcaocaaGreat
open Go.RowKit Go.Joins
set_option linter.unusedVariables false

/-- p is k's parent -/
def Par (k p : Nat) : Prop := 0 < k ∧ k ≤ 1048576 ∧ p = (k - 1) / 4
theorem parentOf_par {k p : Nat} (h : Par k p) (w : World) : Calls Tryz.prog 178 #[.int .i64 k] w fun e w' => e = .returned (.int .i64 p) ∧ w = w' := by
  obtain ⟨h0, h1, h2⟩ := h
  have e : ((k : Int) - 1).tdiv 4 = (p : Int) := by
    rw [h2, show ((k : Int) - 1) = ((k - 1 : Nat) : Int) by omega, Int.tdiv_eq_ediv_of_nonneg (by omega)]; omega
  have := parentOf_any (k : Int) w (by omega) (by omega)
  rwa [e] at this

set_option maxRecDepth 100000 in
set_option maxHeartbeats 1000000 in
theorem hRaise_out {v : Value} {n : Nat} {i : Int} {w : World} (hn : n ≤ 1048576) (hi : hasB n i = false) (hv : ∃ a cap, v = .slice a n cap) :
    Calls Tryz.prog 172 #[heapV v, .int .i64 i] w fun e w' => e = .returned (.tuple #[]) ∧ Below w.heap.size w w' := by
  have hv2 := hv
  have k0 := (Below.refl w.heap.size w).alloc (Nat.le_refl _) (.cells #[v, dueV] 172)
  have HB := heap_alloc_new w (.cells #[v, dueV] 172)
  have hl : w.heap.size < (w.alloc (.cells #[v, dueV] 172)).heap.size := by simp
  have c0 := cell_of_block HB 0
  have c1 := cell_of_block HB 1
  obtain ⟨a, cap, rfl⟩ := hv
  clear HB
  go_enter Tryz.func172, Tryz.ntmps172
  go_wp2_with fail
  refine wp_loop_rounds 1 ?_
  rw [rounds_succ]
  go_wp2_with fail
  (first | (go_region_with (first
    | (go_at_call 153; refine (hHas_is false hi (Nat.le_succ_of_le hn) hv2).mono ?_; rintro e w1 ⟨rfl, hb1⟩; have y0 := (hb1.cell (p := ⟨w.heap.size, 0, none⟩) hl).trans c0; have y1 := (hb1.cell (p := ⟨w.heap.size, 1, none⟩) hl).trans c1))) | fail)
  all_goals
    go_wp2
    go_end0
    exact ⟨rfl, k0.drew.trans (hb1.mono k0.drew.size)⟩

set_option maxRecDepth 100000 in
set_option maxHeartbeats 4000000 in
theorem hRaise_in {B g n cap k0 : Nat} {f : Slots} {w : World} (hn : n ≤ 1048576) (hk0 : k0 < n) (h : OwnAt w B g n cap f) :
    Calls Tryz.prog 172 #[heapV (.slice (some ⟨g, 0, none⟩) n cap), .int .i64 k0] w fun e w' => e = .returned (.tuple #[]) ∧ OwnAt w' B g n cap (raiseF f k0) ∧ w.grownBy w' (some g) := by
  have hv2 : ∃ a c, (Value.slice (some ⟨g, 0, none⟩) n cap) = .slice a n c := ⟨_, _, rfl⟩
  have hO0 := h.alloc (.cells #[(.slice (some ⟨g, 0, none⟩) n cap), dueV] 172)
  have hg0 := World.grownBy_alloc w (.cells #[(.slice (some ⟨g, 0, none⟩) n cap), dueV] 172) (some g)
  have HB := Lib.hid (heap_alloc_new w (.cells #[(.slice (some ⟨g, 0, none⟩) n cap), dueV] 172))
  have hgl := h.lt
  have hne : w.heap.size ≠ g := by omega
  clear h
  go_enter Tryz.func172, Tryz.ntmps172
  go_wp2_with fail
  go_loopw [1] (fun i wr => ∃ (k : Nat) (f' : Slots), k < n ∧ i = .int .i64 k ∧ OwnAt wr B g n cap f' ∧ (w.alloc (.cells #[(.slice (some ⟨g, 0, none⟩) n cap), dueV] 172)).grownBy wr (some g) ∧ Hid (raiseF f k0 = raiseF f' k)) (fun i _ => (intOf i).toNat)
  case atStart => exact ⟨k0, f, hk0, rfl, hO0, g_refl _ _, Lib.hid rfl⟩
  case round =>
    obtain ⟨k, f', hk, rfl, hOk, hgk, hf⟩ := hrel
    have hBk := g_block hgk HB.out hne
    have c0 : wr.cell? ⟨w.heap.size, 0, none⟩ = some (.slice (some ⟨g, 0, none⟩) n cap) := cell_of_block hBk 0
    have c1 : wr.cell? ⟨w.heap.size, 1, none⟩ = some dueV := cell_of_block hBk 1
    have hl := lt_of_block hBk
    have hhas : hasB n (k : Int) = true := hasB_iff.2 ⟨by omega, by omega⟩
    clear hBk
    cases hup : upB f' k
    · have hfk := Lib.hid (hf.out.trans (raiseF_stop hup))
      clear hf
      by_cases hz : k = 0
      · subst hz
        clear hup
        go_wp2_with fail
        (first | (go_region_with (first
          | (go_at_call 153; refine (hHas_is true hhas (Nat.le_succ_of_le hn) hv2).mono ?_; rintro e w1 ⟨rfl, hb1⟩
             have y0 := (hb1.cell (p := ⟨w.heap.size, 0, none⟩) hl).trans c0; have y1 := (hb1.cell (p := ⟨w.heap.size, 1, none⟩) hl).trans c1; have hl1 := Nat.lt_of_lt_of_le hl hb1.size; have hO1 := hOk.drew.below hb1; have hg1 := g_trans (g_drew hgk) (g_below hb1 (some g))))) | fail)
        all_goals
          go_wp2
          go_end0
          exact ⟨rfl, hfk.out ▸ hO1, g_trans hg0 hg1⟩
      · obtain ⟨p, hp⟩ : ∃ p : Nat, p = (k - 1) / 4 := ⟨_, rfl⟩
        have hpar : Par k p := ⟨by omega, by omega, hp⟩
        have b1 : p < n := by omega
        have b2 : (k : Int) < (n : Int) := by omega
        have hk0' : (0 : Int) < (k : Int) := by omega
        have hd0 : decide (0 < k) = true := by simp; omega
        have hd : decide ((f' k).2 < (f' p).2) = false := by
          simp only [upB, Bool.and_eq_false_iff, decide_eq_false_iff_not, ← hp] at hup
          simp only [decide_eq_false_iff_not]
          omega
        clear hup hz hp
        go_wp2_with fail
        (first | (go_region_with (first
          | (go_at_call 153; refine (hHas_is true hhas (Nat.le_succ_of_le hn) hv2).mono ?_; rintro e w1 ⟨rfl, hb1⟩
             have y0 := (hb1.cell (p := ⟨w.heap.size, 0, none⟩) hl).trans c0; have y1 := (hb1.cell (p := ⟨w.heap.size, 1, none⟩) hl).trans c1; have hl1 := Nat.lt_of_lt_of_le hl hb1.size; have hO1 := hOk.drew.below hb1; have hg1 := g_trans (g_drew hgk) (g_below hb1 (some g)))
          | (go_at_call 178; refine (parentOf_par hpar _).mono ?_; rintro e w' ⟨rfl, rfl⟩)
          | (go_at_call 177; refine (hLess_is false hd (Nat.le_succ_of_le hn) hk b1 hO1.row).mono ?_; rintro e w2 ⟨rfl, hb2⟩
             have z0 := (hb2.cell (p := ⟨w.heap.size, 0, none⟩) hl1).trans y0; have z1 := (hb2.cell (p := ⟨w.heap.size, 1, none⟩) hl1).trans y1; have hl2 := Nat.lt_of_lt_of_le hl1 hb2.size; have hO2 := hO1.below hb2; have hg2 := g_trans hg1 (g_below hb2 (some g))))) | fail)
        all_goals
          clear hd hd0 hk0' b2 hhas hpar y0 y1 z0 z1 c0 c1
          go_wp2
          go_end0
          exact ⟨rfl, hfk.out ▸ hO2, g_trans hg0 hg2⟩
    · have hfk := Lib.hid (hf.out.trans (raiseF_up hup))
      clear hf
      obtain ⟨p, hp⟩ : ∃ p : Nat, p = (k - 1) / 4 := ⟨_, rfl⟩
      have hkz : 0 < k := by simp [upB] at hup; omega
      have hpar : Par k p := ⟨by omega, by omega, hp⟩
      have b1 : p < n := by omega
      have hpk : p < k := by omega
      have b2 : (k : Int) < (n : Int) := by omega
      have hk0' : (0 : Int) < (k : Int) := by omega
      have hd0 : decide (0 < k) = true := by simp; omega
      have hd : decide ((f' k).2 < (f' p).2) = true := by simp only [upB, Bool.and_eq_true, ← hp] at hup; exact hup.2
      rw [← hp] at hfk
      clear hup hp hkz
      go_wp2_with fail
      (first | (go_region_with (first
        | (go_at_call 153; refine (hHas_is true hhas (Nat.le_succ_of_le hn) hv2).mono ?_; rintro e w1 ⟨rfl, hb1⟩
           have y0 := (hb1.cell (p := ⟨w.heap.size, 0, none⟩) hl).trans c0; have y1 := (hb1.cell (p := ⟨w.heap.size, 1, none⟩) hl).trans c1; have hl1 := Nat.lt_of_lt_of_le hl hb1.size; have hO1 := hOk.drew.below hb1; have hg1 := g_trans (g_drew hgk) (g_below hb1 (some g)))
        | (go_at_call 178; refine (parentOf_par hpar _).mono ?_; rintro e w' ⟨rfl, rfl⟩)
        | (go_at_call 177; refine (hLess_is true hd (Nat.le_succ_of_le hn) hk b1 hO1.row).mono ?_; rintro e w2 ⟨rfl, hb2⟩
           have z0 := (hb2.cell (p := ⟨w.heap.size, 0, none⟩) hl1).trans y0; have z1 := (hb2.cell (p := ⟨w.heap.size, 1, none⟩) hl1).trans y1; have hl2 := Nat.lt_of_lt_of_le hl1 hb2.size; have hO2 := hO1.below hb2; have hg2 := g_trans hg1 (g_below hb2 (some g))))) | fail)
      all_goals
        clear c0 c1 y0 y1 hb1 hb2 hO1 hg1 hl1 hl hOk hgk hd hd0 hk0' hhas b2
        go_wp2_with fail
        (first | (go_region_with (first
          | (go_at_call 178; refine (parentOf_par hpar _).mono ?_; rintro e w' ⟨rfl, rfl⟩)
          | (go_at_call 179; refine (hSwap_any (Nat.le_succ_of_le hn) hk b1 (Nat.ne_of_gt hpk) hO2.drew).mono ?_; rintro e w3 ⟨rfl, hO3, hg3⟩; have hg4 := g_trans (g_drew hg2) hg3))) | fail)
        all_goals
          clear z0 z1 hl2 hO2 hg2 hg3
          go_wp2_with fail
          go_at_call 178; refine (parentOf_par hpar _).mono ?_; rintro e w' ⟨rfl, rfl⟩
          go_wp2
          exact ⟨⟨p, swapF f' k p, b1, rfl, hO3, hg4, hfk⟩, by simp only [intOf]; omega⟩

end Go.Proofs.YtpgfffmojcaocaaGreat

/-
  The program's generic list that is told what is less (chapter 2), at slots: sunk.
-/
namespace Go.Proofs.YtpgfffmojcaocaaGreat
open Go.RowKit Go.Joins
set_option linter.unusedVariables false

set_option maxRecDepth 100000 in
set_option maxHeartbeats 1000000 in
theorem hSink_out {v : Value} {n : Nat} {i : Int} {w : World} (hn : n ≤ 1048576) (hi : hasB n i = false) (hv : ∃ a cap, v = .slice a n cap) :
    Calls Tryz.prog 173 #[heapV v, .int .i64 i] w fun e w' => e = .returned (.tuple #[]) ∧ Below w.heap.size w w' := by
  have hv2 := hv
  have k0 := (Below.refl w.heap.size w).alloc (Nat.le_refl _) (.cells #[v, dueV] 172)
  have HB := heap_alloc_new w (.cells #[v, dueV] 172)
  have hl : w.heap.size < (w.alloc (.cells #[v, dueV] 172)).heap.size := by simp
  have c0 := cell_of_block HB 0
  have c1 := cell_of_block HB 1
  obtain ⟨a, cap, rfl⟩ := hv
  clear HB
  go_enter Tryz.func173, Tryz.ntmps173
  go_wp2_with fail
  refine wp_loop_rounds 1 ?_
  rw [rounds_succ]
  go_wp2_with fail
  go_at_call 153; refine (hHas_is false hi (Nat.le_succ_of_le hn) hv2).mono ?_; rintro e w1 ⟨rfl, hb1⟩
  go_wp2
  go_end0
  exact ⟨rfl, k0.trans (hb1.mono k0.size)⟩

set_option maxRecDepth 100000 in
set_option maxHeartbeats 4000000 in
theorem hSink_in {B g n cap k0 : Nat} {f : Slots} {w : World} (hn : n ≤ 1048576) (hk0 : k0 < n) (h : OwnAt w B g n cap f) :
    Calls Tryz.prog 173 #[heapV (.slice (some ⟨g, 0, none⟩) n cap), .int .i64 k0] w fun e w' => e = .returned (.tuple #[]) ∧ OwnAt w' B g n cap (sinkF f n k0) ∧ w.grownBy w' (some g) := by
  have hv2 : ∃ a c, (Value.slice (some ⟨g, 0, none⟩) n cap) = .slice a n c := ⟨_, _, rfl⟩
  have hO0 := h.alloc (.cells #[(.slice (some ⟨g, 0, none⟩) n cap), dueV] 172)
  have hg0 := World.grownBy_alloc w (.cells #[(.slice (some ⟨g, 0, none⟩) n cap), dueV] 172) (some g)
  have HB := Lib.hid (heap_alloc_new w (.cells #[(.slice (some ⟨g, 0, none⟩) n cap), dueV] 172))
  have hgl := h.lt
  have hne : w.heap.size ≠ g := by omega
  clear h
  go_enter Tryz.func173, Tryz.ntmps173
  go_wp2_with fail
  go_loopw [1] (fun i wr => ∃ (k : Nat) (f' : Slots), k < n ∧ i = .int .i64 k ∧ OwnAt wr B g n cap f' ∧ (w.alloc (.cells #[(.slice (some ⟨g, 0, none⟩) n cap), dueV] 172)).grownBy wr (some g) ∧ Hid (sinkF f n k0 = sinkF f' n k)) (fun i _ => n - (intOf i).toNat)
  case atStart => exact ⟨k0, f, hk0, rfl, hO0, g_refl _ _, Lib.hid rfl⟩
  case round =>
    obtain ⟨k, f', hk, rfl, hOk, hgk, hf⟩ := hrel
    have hBk := g_block hgk HB.out hne
    have c0 : wr.cell? ⟨w.heap.size, 0, none⟩ = some (.slice (some ⟨g, 0, none⟩) n cap) := cell_of_block hBk 0
    have c1 : wr.cell? ⟨w.heap.size, 1, none⟩ = some dueV := cell_of_block hBk 1
    have hl := lt_of_block hBk
    have hhas : hasB n (k : Int) = true := hasB_iff.2 ⟨by omega, by omega⟩
    clear hBk
    go_wp2_with fail
    go_at_call 153; refine (hHas_is true hhas (Nat.le_succ_of_le hn) hv2).mono ?_; rintro e w1 ⟨rfl, hb1⟩
    have y0 := (hb1.cell (p := ⟨w.heap.size, 0, none⟩) hl).trans c0; have y1 := (hb1.cell (p := ⟨w.heap.size, 1, none⟩) hl).trans c1; have hl1 := Nat.lt_of_lt_of_le hl hb1.size; have hO1 := hOk.below hb1; have hg1 := g_trans hgk (g_below hb1 (some g))
    clear c0 c1 hb1 hOk hgk hl hhas
    go_wp2_with fail
    go_at_call 180; refine (hLeast_any (Nat.le_succ_of_le hn) hk hO1.row).mono ?_; rintro e w2 ⟨rfl, hb2⟩
    have z0 := (hb2.cell (p := ⟨w.heap.size, 0, none⟩) hl1).trans y0; have z1 := (hb2.cell (p := ⟨w.heap.size, 1, none⟩) hl1).trans y1; have hl2 := Nat.lt_of_lt_of_le hl1 hb2.size; have hO2 := hO1.below hb2; have hg2 := g_trans hg1 (g_below hb2 (some g))
    clear y0 y1 hb2 hO1 hg1 hl1
    obtain ⟨b, hb⟩ : ∃ b : Nat, b = bestF f' n k := ⟨_, rfl⟩
    rw [← hb]
    have HBe := Lib.hid hb.symm
    clear hb
    by_cases hbk : b = k
    · subst hbk
      have hres := Lib.hid (hf.out.trans (sinkF_stop HBe.out))
      clear hf HBe
      go_wp2
      refine bodyPost_ret (results_none rfl _ _ _) rfl ?_
      exact ⟨rfl, hres.out ▸ hO2, g_trans hg0 hg2⟩
    · have hbn : b < n := HBe.out ▸ bestF_lt hk
      have hgt : k < b := by
        have := bestF_ge f' n k
        rw [HBe.out] at this
        omega
      have hS := Lib.hid ((hf.out.trans (sinkF_down hk (by rw [HBe.out]; exact hbk))).trans (by rw [HBe.out]))
      have hq : ((b : Int) == (k : Int)) = false := by rw [beq_eq_false_iff_ne]; omega
      clear hf HBe hbk
      go_wp2_with fail
      go_at_call 179; refine (hSwap_any (Nat.le_succ_of_le hn) hk hbn (Nat.ne_of_lt hgt) hO2).mono ?_; rintro e w3 ⟨rfl, hO3, hg3⟩
      have hg4 := g_trans hg2 hg3
      clear z0 z1 hl2 hO2 hg2 hg3
      go_wp2
      exact ⟨⟨b, swapF f' k b, hbn, rfl, hO3, hg4, hS⟩, by simp only [intOf]; omega⟩

end Go.Proofs.YtpgfffmojcaocaaGreat

/-
  The program's own functions on heaps (chapter 2): what HeapOk, RaisedFrom and SunkFrom answer.
-/
namespace Go.Proofs.YtpgfffmojcaocaaGreat
open Go.RowKit Go.Joins
set_option linter.unusedVariables false

set_option maxRecDepth 100000 in
set_option maxHeartbeats 1000000 in
theorem iHeapOk_holds : AsksB 145 heapB := by
  intro v n f w hn h
  obtain ⟨a, cap, rfl⟩ := h.form
  have HR := Lib.hid h
  clear h
  by_cases h30 : n ≤ 30
  · have hle : (n : Int) ≤ 30 := by omega
    have hd : heapB f n = heapFrom f n 1 := by rw [heapB, decide_eq_true h30, Bool.and_true]
    rw [hd]
    cases ho : heapFrom f n 1
    all_goals
      have HO := Lib.hid ho
      clear hd ho
      go_enter Tryz.func145, Tryz.ntmps145
      go_wp2_with fail
      go_at_call 151; refine (heapFrom_any hn HR.out).mono ?_; rintro e w1 ⟨v1, rfl, hO, hb⟩
      go_wp2_with fail
      go_at_call 168; refine (hInOrder_any hn hO.row).mono ?_; rw [HO.out]; rintro e w2 ⟨rfl, hb2⟩
      have k2 := hb.trans (hb2.mono hb.size)
      clear hO hb hb2 HO
      go_wp2
      go_ret
      exact ⟨rfl, k2⟩
  · have hle : ¬ (n : Int) ≤ 30 := by omega
    have hd2 : decide (n ≤ 30) = false := by simp; omega
    have hd : heapB f n = false := by rw [heapB, hd2, Bool.and_false]
    rw [hd]
    clear hd
    go_enter Tryz.func145, Tryz.ntmps145
    go_wp2
    go_ret
    exact ⟨rfl, Below.refl _ _⟩

end Go.Proofs.YtpgfffmojcaocaaGreat

/-
  The exact laws on processors, told what the program's own functions answer.
-/
namespace Go.Proofs.YtpgfffmojcaocaaGreat
open Go.RowKit Go.Joins
set_option linter.unusedVariables false

/-- what the program's WakeOf and ProcOk are to answer -/
def AsksW (fn : FuncId) : Prop := ∀ (v : Value) (n : Nat) (f : Slots) (l e d : Int) (w : World), n ≤ 1048576 → RowAt w v n f → Calls Tryz.prog fn #[prV v l e d] w fun x w' => x = .returned (.int .i64 (wakeI f n e)) ∧ Below w.heap.size w w'
def AsksR (fn : FuncId) : Prop := ∀ (a b c : Int) (v : Value) (n : Nat) (f : Slots) (l e d : Int) (w : World), n ≤ 1048576 → RowAt w v n f → Calls Tryz.prog fn #[.agg #[.int .i64 a, .int .i64 b, .int .i64 c], prV v l e d] w fun x w' => x = .returned (.bool (procOkB a b c f n l e d)) ∧ Below w.heap.size w w'

end Go.Proofs.YtpgfffmojcaocaaGreat

/-
  Processors, in the program (chapter 4): no Id twice, right, when to wake.
-/
namespace Go.Proofs.YtpgfffmojcaocaaGreat
open Go.RowKit Go.Joins
set_option linter.unusedVariables false

theorem diffTo_iff {f : Slots} {i : Nat} : ∀ {k : Nat}, diffTo f i k = true ↔ ∀ q, q < k → (f q).1 ≠ (f i).1
  | 0 => by simp [diffTo]
  | k + 1 => by
    rw [diffTo, Bool.and_eq_true, diffTo_iff]
    constructor
    · rintro ⟨h1, h2⟩ q hq
      by_cases e : q = k
      · subst e
        intro h
        rw [h] at h2
        simp at h2
      · exact h1 q (by omega)
    · intro h
      refine ⟨fun q hq => h q (by omega), ?_⟩
      have := h k (by omega)
      simp only [Bool.not_eq_true', beq_eq_false_iff_ne, ne_eq]
      exact fun e => this e.symm
theorem find_past {f : Slots} {n : Nat} {id : Int} : ∀ j, j ≤ n → (∀ q, q < j → (f q).1 ≠ id) → findFrom f n id 0 = findFrom f n id j
  | 0, _, _ => rfl
  | j + 1, hj, h => by rw [find_past j (by omega) fun q hq => h q (by omega), findFrom_next (by omega) (h j (by omega))]
theorem find_self {f : Slots} {n k : Nat} (hk : k < n) (h : diffTo f k k = true) : findFrom f n (f k).1 0 = k := by
  rw [find_past k (Nat.le_of_lt hk) (diffTo_iff.1 h), findFrom_here hk rfl]
theorem find_other {f : Slots} {n k : Nat} (hk : k < n) (h : diffTo f k k = false) : findFrom f n (f k).1 0 ≠ k := by
  have hex : ¬ ∀ q, q < k → (f q).1 ≠ (f k).1 := fun hh => by rw [diffTo_iff.2 hh] at h; cases h
  have : ∀ c j, k - j ≤ c → j ≤ k → (∀ q, q < j → (f q).1 ≠ (f k).1) → findFrom f n (f k).1 0 ≠ k := by
    intro c
    induction c with
    | zero => intro j h1 h2 h3; exact absurd (show ∀ q, q < k → (f q).1 ≠ (f k).1 from fun q hq => h3 q (by omega)) hex
    | succ c ih =>
      intro j h1 h2 h3
      by_cases e : j = k
      · subst e; exact absurd h3 hex
      by_cases hj : (f j).1 = (f k).1
      · rw [find_past j (by omega) h3, findFrom_here (by omega) hj]
        omega
      · refine ih (j + 1) (by omega) (by omega) fun q hq => ?_
        by_cases e2 : q = j
        · subst e2; exact hj
        · exact h3 q (by omega)
  exact this k 0 (by omega) (Nat.zero_le _) fun q hq => absurd hq (Nat.not_lt_zero _)

set_option maxRecDepth 100000 in
set_option maxHeartbeats 1000000 in
theorem noIdTwice_any {v : Value} {n : Nat} {f : Slots} {w : World} (hn : n ≤ 1048576) (h : RowAt w v n f) :
    Calls Tryz.prog 146 #[v] w fun x w' => x = .returned (.bool (diffAll f n)) ∧ Below w.heap.size w w' := by
  obtain ⟨a, cap, hv⟩ := h.form
  have HR := Lib.hid h
  clear h
  subst hv
  go_enter Tryz.func146, Tryz.ntmps146
  go_wp2_with fail
  go_loopw [7] (fun i wr => ∃ k : Nat, k ≤ n ∧ i = .int .i64 k ∧ Below w.heap.size w wr ∧ Hid (diffAll f k = true)) (fun i _ => n - (intOf i).toNat)
  case atStart => exact ⟨0, Nat.zero_le _, rfl, Below.refl _ _, Lib.hid rfl⟩
  case round =>
    obtain ⟨k, hk, rfl, hbw, hd⟩ := hrel
    by_cases hlt : k < n
    · have hri := HR.out.below hbw
      rcases HR.out with ⟨h0, _⟩ | ⟨b, off, cap2, e2, hl, hc⟩
      · omega
      injection e2 with e2 _ e3
      subst e2
      have c0 := (hbw.cell (p := ⟨b, off + k * 2, none⟩) hl).trans (hc k hlt).1
      have c1 := (hbw.cell (p := ⟨b, off + k * 2 + 1, none⟩) hl).trans (hc k hlt).2
      have b2 : (k : Int) < (n : Int) := by omega
      clear hc
      have ka := hbw.alloc hbw.size (.cells #[.int .i64 (f k).1, .int .i64 (f k).2] 39)
      have hrA := hri.below ((Below.refl wr.heap.size wr).alloc (Nat.le_refl _) (.cells #[.int .i64 (f k).1, .int .i64 (f k).2] 39))
      subst e3
      cases hdk : diffTo f k k
      · have hbad := Lib.hid (show false = diffAll f n from (diffAll_bad (show diffAll f (k + 1) = false by rw [diffAll, hdk, Bool.and_false]) n (by omega)).symm)
        obtain ⟨r, hr⟩ : ∃ r, findM f n (f k).1 = r := ⟨_, rfl⟩
        have hne : (r != (k : Int)) = true := by
          have := find_other hlt hdk
          rw [bne_iff_ne, ← hr]
          exact this
        clear hd hdk
        go_wp2_with fail
        go_at_call 123; refine (iFindSlot_holds _ _ f _ _ hn hrA).mono ?_; rintro x w1 ⟨rfl, hb⟩
        rw [hr]
        clear hr
        go_wp2
        go_ret
        exact ⟨ret_bool hbad.out, ka.trans (hb.mono ka.size)⟩
      · have hnext := Lib.hid (show diffAll f (k + 1) = true by rw [diffAll, hd.out, hdk]; rfl)
        have hr : findM f n (f k).1 = k := find_self hlt hdk
        have hne : ((k : Int) != (k : Int)) = false := by simp
        clear hd hdk
        go_wp2_with fail
        go_at_call 123; refine (iFindSlot_holds _ _ f _ _ hn hrA).mono ?_; rintro x w1 ⟨rfl, hb⟩
        rw [hr]
        clear hr
        have kb := ka.trans (hb.mono ka.size)
        go_wp2
        exact ⟨⟨k + 1, by omega, by go_num, kb, hnext⟩, by simp only [intOf]; omega⟩
    · have hkn : k = n := by omega
      have hkd : decide (k < n) = false := by simp; omega
      have hall := Lib.hid (show true = diffAll f n by rw [← hkn]; exact hd.out.symm)
      clear hkn
      go_wp2
      go_ret
      exact ⟨ret_bool hall.out, hbw⟩

theorem procOkB_eq (a b c : Int) (f : Slots) (n : Nat) (l e d : Int) :
    procOkB a b c f n l e d = (planB a b c && ((((heapB f n && diffAll f n) && (l == -1 || workB a b c l)) && (e == -1 || inB e 0 1000000000)) && inB d 0 n)) := by
  unfold procOkB
  cases planB a b c <;> cases heapB f n <;> cases diffAll f n <;> cases (l == -1 || workB a b c l) <;> cases (e == -1 || inB e 0 1000000000) <;> cases inB d 0 n <;> rfl

/-- is it right, but for the plan? -/
def rightB (a b c : Int) (f : Slots) (n : Nat) (l e d : Int) : Bool :=
  (((heapB f n && diffAll f n) && (l == -1 || workB a b c l)) && (e == -1 || inB e 0 1000000000)) && inB d 0 n

set_option maxRecDepth 100000 in
set_option maxHeartbeats 2000000 in
theorem rightIn_any (a b c : Int) {v : Value} {n : Nat} {f : Slots} (l e d : Int) {w : World} (hn : n ≤ 1048576) (h : RowAt w v n f) :
    Calls Tryz.prog 117 #[pxV v l e d, .agg #[.int .i64 a, .int .i64 b, .int .i64 c]] w fun x w' => x = .returned (.bool (rightB a b c f n l e d)) ∧ Below w.heap.size w w' := by
  have k0 := (Below.refl w.heap.size w).alloc (Nat.le_refl _) (pxB v l e d)
  have k1 := k0.alloc k0.size (.cells #[.int .i64 a, .int .i64 b, .int .i64 c] 25)
  have HR := Lib.hid (h.below k1)
  have HX := Lib.hid (alloc_block (.cells #[.int .i64 a, .int .i64 b, .int .i64 c] 25) (heap_alloc_new w (pxB v l e d)))
  have hP := heap_alloc_new (w.alloc (pxB v l e d)) (.cells #[.int .i64 a, .int .i64 b, .int .i64 c] 25)
  rw [show (w.alloc (pxB v l e d)).heap.size = w.heap.size + 1 by simp] at hP
  have HP := Lib.hid hP
  have lX := lt_of_block HX.out
  have lP := lt_of_block hP
  clear hP
  obtain ⟨va, vc, hv⟩ := h.form
  have hform : ∃ a cap, v = .slice a n cap := h.form
  clear h
  subst hv
  have kw := Below.refl ((w.alloc (pxB (.slice va n vc) l e d)).alloc (.cells #[.int .i64 a, .int .i64 b, .int .i64 c] 25)).heap.size ((w.alloc (pxB (.slice va n vc) l e d)).alloc (.cells #[.int .i64 a, .int .i64 b, .int .i64 c] 25))
  cases h2 : heapB f n
  · rw [show rightB a b c f n l e d = false by simp only [rightB, h2]; rfl]
    go_enter Tryz.func117, Tryz.ntmps117
    go_wp2_with fail
    go_at_call 145; refine (iHeapOk_holds _ _ f _ hn HR.out).mono ?_; rintro x w1 ⟨rfl, hb⟩; rw [h2]
    replace kw := kw.trans (hb.mono kw.size)
    clear hb
    obtain ⟨x0, x1, x2, x3, _, _, _, _⟩ := four (b_block kw HX.out lX)
    go_wp2
    go_ret
    exact ⟨rfl, k1.trans (kw.mono k1.size)⟩
  cases h3 : diffAll f n
  · rw [show rightB a b c f n l e d = false by simp only [rightB, h2, h3]; rfl]
    go_enter Tryz.func117, Tryz.ntmps117
    go_wp2_with fail
    go_at_call 145; refine (iHeapOk_holds _ _ f _ hn HR.out).mono ?_; rintro x w1 ⟨rfl, hb⟩; rw [h2]
    replace kw := kw.trans (hb.mono kw.size)
    clear hb
    obtain ⟨x0, x1, x2, x3, _, _, _, _⟩ := four (b_block kw HX.out lX)
    obtain ⟨y0, y1, y2, _, _, _⟩ := three (b_block kw HP.out lP)
    go_wp2_with fail
    go_at_call 146; refine (noIdTwice_any hn (HR.out.below kw)).mono ?_; rintro x w1 ⟨rfl, hb⟩; rw [h3]
    replace kw := kw.trans (hb.mono kw.size)
    clear hb x0 x1 x2 x3 y0 y1 y2
    obtain ⟨x0, x1, x2, x3, _, _, _, _⟩ := four (b_block kw HX.out lX)
    go_wp2
    go_ret
    exact ⟨rfl, k1.trans (kw.mono k1.size)⟩
  cases h4 : (l == -1 || workB a b c l)
  · rw [show rightB a b c f n l e d = false by simp only [rightB, h2, h3, h4]; rfl]
    go_enter Tryz.func117, Tryz.ntmps117
    go_wp2_with fail
    go_at_call 145; refine (iHeapOk_holds _ _ f _ hn HR.out).mono ?_; rintro x w1 ⟨rfl, hb⟩; rw [h2]
    replace kw := kw.trans (hb.mono kw.size)
    clear hb
    obtain ⟨x0, x1, x2, x3, _, _, _, _⟩ := four (b_block kw HX.out lX)
    obtain ⟨y0, y1, y2, _, _, _⟩ := three (b_block kw HP.out lP)
    go_wp2_with fail
    go_at_call 146; refine (noIdTwice_any hn (HR.out.below kw)).mono ?_; rintro x w1 ⟨rfl, hb⟩; rw [h3]
    replace kw := kw.trans (hb.mono kw.size)
    clear hb x0 x1 x2 x3 y0 y1 y2
    obtain ⟨x0, x1, x2, x3, _, _, _, _⟩ := four (b_block kw HX.out lX)
    obtain ⟨y0, y1, y2, _, _, _⟩ := three (b_block kw HP.out lP)
    go_wp2_with fail
    go_at_call 147; refine (lockRight_any _ _ _ _ _ _ hform).mono ?_; rintro x w1 ⟨rfl, hb⟩; rw [h4]
    replace kw := kw.trans (hb.mono kw.size)
    clear hb x0 x1 x2 x3 y0 y1 y2
    obtain ⟨x0, x1, x2, x3, _, _, _, _⟩ := four (b_block kw HX.out lX)
    go_wp2
    go_ret
    exact ⟨rfl, k1.trans (kw.mono k1.size)⟩
  cases h5 : (e == -1 || inB e 0 1000000000)
  · rw [show rightB a b c f n l e d = false by simp only [rightB, h2, h3, h4, h5]; rfl]
    go_enter Tryz.func117, Tryz.ntmps117
    go_wp2_with fail
    go_at_call 145; refine (iHeapOk_holds _ _ f _ hn HR.out).mono ?_; rintro x w1 ⟨rfl, hb⟩; rw [h2]
    replace kw := kw.trans (hb.mono kw.size)
    clear hb
    obtain ⟨x0, x1, x2, x3, _, _, _, _⟩ := four (b_block kw HX.out lX)
    obtain ⟨y0, y1, y2, _, _, _⟩ := three (b_block kw HP.out lP)
    go_wp2_with fail
    go_at_call 146; refine (noIdTwice_any hn (HR.out.below kw)).mono ?_; rintro x w1 ⟨rfl, hb⟩; rw [h3]
    replace kw := kw.trans (hb.mono kw.size)
    clear hb x0 x1 x2 x3 y0 y1 y2
    obtain ⟨x0, x1, x2, x3, _, _, _, _⟩ := four (b_block kw HX.out lX)
    obtain ⟨y0, y1, y2, _, _, _⟩ := three (b_block kw HP.out lP)
    go_wp2_with fail
    go_at_call 147; refine (lockRight_any _ _ _ _ _ _ hform).mono ?_; rintro x w1 ⟨rfl, hb⟩; rw [h4]
    replace kw := kw.trans (hb.mono kw.size)
    clear hb x0 x1 x2 x3 y0 y1 y2
    obtain ⟨x0, x1, x2, x3, _, _, _, _⟩ := four (b_block kw HX.out lX)
    obtain ⟨y0, y1, y2, _, _, _⟩ := three (b_block kw HP.out lP)
    go_wp2_with fail
    go_at_call 148; refine (earliestRight_any _ _ _ hform).mono ?_; rintro x w1 ⟨rfl, hb⟩; rw [h5]
    replace kw := kw.trans (hb.mono kw.size)
    clear hb x0 x1 x2 x3 y0 y1 y2
    obtain ⟨x0, x1, x2, x3, _, _, _, _⟩ := four (b_block kw HX.out lX)
    go_wp2
    go_ret
    exact ⟨rfl, k1.trans (kw.mono k1.size)⟩
  cases h6 : inB d 0 n
  · rw [show rightB a b c f n l e d = false by simp only [rightB, h2, h3, h4, h5, h6]; rfl]
    go_enter Tryz.func117, Tryz.ntmps117
    go_wp2_with fail
    go_at_call 145; refine (iHeapOk_holds _ _ f _ hn HR.out).mono ?_; rintro x w1 ⟨rfl, hb⟩; rw [h2]
    replace kw := kw.trans (hb.mono kw.size)
    clear hb
    obtain ⟨x0, x1, x2, x3, _, _, _, _⟩ := four (b_block kw HX.out lX)
    obtain ⟨y0, y1, y2, _, _, _⟩ := three (b_block kw HP.out lP)
    go_wp2_with fail
    go_at_call 146; refine (noIdTwice_any hn (HR.out.below kw)).mono ?_; rintro x w1 ⟨rfl, hb⟩; rw [h3]
    replace kw := kw.trans (hb.mono kw.size)
    clear hb x0 x1 x2 x3 y0 y1 y2
    obtain ⟨x0, x1, x2, x3, _, _, _, _⟩ := four (b_block kw HX.out lX)
    obtain ⟨y0, y1, y2, _, _, _⟩ := three (b_block kw HP.out lP)
    go_wp2_with fail
    go_at_call 147; refine (lockRight_any _ _ _ _ _ _ hform).mono ?_; rintro x w1 ⟨rfl, hb⟩; rw [h4]
    replace kw := kw.trans (hb.mono kw.size)
    clear hb x0 x1 x2 x3 y0 y1 y2
    obtain ⟨x0, x1, x2, x3, _, _, _, _⟩ := four (b_block kw HX.out lX)
    obtain ⟨y0, y1, y2, _, _, _⟩ := three (b_block kw HP.out lP)
    go_wp2_with fail
    go_at_call 148; refine (earliestRight_any _ _ _ hform).mono ?_; rintro x w1 ⟨rfl, hb⟩; rw [h5]
    replace kw := kw.trans (hb.mono kw.size)
    clear hb x0 x1 x2 x3 y0 y1 y2
    obtain ⟨x0, x1, x2, x3, _, _, _, _⟩ := four (b_block kw HX.out lX)
    obtain ⟨y0, y1, y2, _, _, _⟩ := three (b_block kw HP.out lP)
    go_wp2_with fail
    go_at_call 149; refine (deletedRight_any _ _ _ hn hform).mono ?_; rintro x w1 ⟨rfl, hb⟩; rw [h6]
    replace kw := kw.trans (hb.mono kw.size)
    clear hb x0 x1 x2 x3 y0 y1 y2
    obtain ⟨x0, x1, x2, x3, _, _, _, _⟩ := four (b_block kw HX.out lX)
    go_wp2
    go_ret
    exact ⟨rfl, k1.trans (kw.mono k1.size)⟩
  rw [show rightB a b c f n l e d = true by simp only [rightB, h2, h3, h4, h5, h6]; rfl]
  go_enter Tryz.func117, Tryz.ntmps117
  go_wp2_with fail
  go_at_call 145; refine (iHeapOk_holds _ _ f _ hn HR.out).mono ?_; rintro x w1 ⟨rfl, hb⟩; rw [h2]
  replace kw := kw.trans (hb.mono kw.size)
  clear hb
  obtain ⟨x0, x1, x2, x3, _, _, _, _⟩ := four (b_block kw HX.out lX)
  obtain ⟨y0, y1, y2, _, _, _⟩ := three (b_block kw HP.out lP)
  go_wp2_with fail
  go_at_call 146; refine (noIdTwice_any hn (HR.out.below kw)).mono ?_; rintro x w1 ⟨rfl, hb⟩; rw [h3]
  replace kw := kw.trans (hb.mono kw.size)
  clear hb x0 x1 x2 x3 y0 y1 y2
  obtain ⟨x0, x1, x2, x3, _, _, _, _⟩ := four (b_block kw HX.out lX)
  obtain ⟨y0, y1, y2, _, _, _⟩ := three (b_block kw HP.out lP)
  go_wp2_with fail
  go_at_call 147; refine (lockRight_any _ _ _ _ _ _ hform).mono ?_; rintro x w1 ⟨rfl, hb⟩; rw [h4]
  replace kw := kw.trans (hb.mono kw.size)
  clear hb x0 x1 x2 x3 y0 y1 y2
  obtain ⟨x0, x1, x2, x3, _, _, _, _⟩ := four (b_block kw HX.out lX)
  obtain ⟨y0, y1, y2, _, _, _⟩ := three (b_block kw HP.out lP)
  go_wp2_with fail
  go_at_call 148; refine (earliestRight_any _ _ _ hform).mono ?_; rintro x w1 ⟨rfl, hb⟩; rw [h5]
  replace kw := kw.trans (hb.mono kw.size)
  clear hb x0 x1 x2 x3 y0 y1 y2
  obtain ⟨x0, x1, x2, x3, _, _, _, _⟩ := four (b_block kw HX.out lX)
  obtain ⟨y0, y1, y2, _, _, _⟩ := three (b_block kw HP.out lP)
  go_wp2_with fail
  go_at_call 149; refine (deletedRight_any _ _ _ hn hform).mono ?_; rintro x w1 ⟨rfl, hb⟩; rw [h6]
  replace kw := kw.trans (hb.mono kw.size)
  clear hb x0 x1 x2 x3 y0 y1 y2
  obtain ⟨x0, x1, x2, x3, _, _, _, _⟩ := four (b_block kw HX.out lX)
  go_wp2
  go_ret
  exact ⟨rfl, k1.trans (kw.mono k1.size)⟩


end Go.Proofs.YtpgfffmojcaocaaGreat

/-
  Timers, in the program: statuses, numbers, place, next.
-/
namespace Go.Proofs.YtpgfffmojcaocaaGreat
open Go.RowKit
set_option linter.unusedVariables false

set_option maxHeartbeats 1000000 in
/-- is there such a status? -/
theorem known_any (s : Int) (w : World) :
    Calls Tryz.prog 167 #[.int .i64 s] w fun e w' => e = .returned (.bool (inB s 0 7)) ∧ w = w' := by
  by_cases h0 : s = 0
  · subst h0
    go_enter Tryz.func167, Tryz.ntmps167
    go_wp2_with (go_at_call 176; go_in)
    go_ret
    exact ⟨rfl, rfl⟩
  by_cases h1 : s = 1
  · subst h1
    go_enter Tryz.func167, Tryz.ntmps167
    go_wp2_with (go_at_call 176; go_in)
    go_ret
    exact ⟨rfl, rfl⟩
  by_cases h2 : s = 2
  · subst h2
    go_enter Tryz.func167, Tryz.ntmps167
    go_wp2_with (go_at_call 176; go_in)
    go_ret
    exact ⟨rfl, rfl⟩
  by_cases h3 : s = 3
  · subst h3
    go_enter Tryz.func167, Tryz.ntmps167
    go_wp2_with (go_at_call 176; go_in)
    go_ret
    exact ⟨rfl, rfl⟩
  by_cases h4 : s = 4
  · subst h4
    go_enter Tryz.func167, Tryz.ntmps167
    go_wp2_with (go_at_call 176; go_in)
    go_ret
    exact ⟨rfl, rfl⟩
  by_cases h5 : s = 5
  · subst h5
    go_enter Tryz.func167, Tryz.ntmps167
    go_wp2_with (go_at_call 176; go_in)
    go_ret
    exact ⟨rfl, rfl⟩
  by_cases h6 : s = 6
  · subst h6
    go_enter Tryz.func167, Tryz.ntmps167
    go_wp2_with (go_at_call 176; go_in)
    go_ret
    exact ⟨rfl, rfl⟩
  by_cases h7 : s = 7
  · subst h7
    go_enter Tryz.func167, Tryz.ntmps167
    go_wp2_with (go_at_call 176; go_in)
    go_ret
    exact ⟨rfl, rfl⟩
  have e : inB s 0 7 = false := by
    cases hx : inB s 0 7
    · rfl
    · have := inB_iff.1 hx; omega
  rw [e]
  have b0 : (s == 0) = false := by simpa using h0
  have b1 : (s == 1) = false := by simpa using h1
  have b2 : (s == 2) = false := by simpa using h2
  have b3 : (s == 3) = false := by simpa using h3
  have b4 : (s == 4) = false := by simpa using h4
  have b5 : (s == 5) = false := by simpa using h5
  have b6 : (s == 6) = false := by simpa using h6
  have b7 : (s == 7) = false := by simpa using h7
  go_enter Tryz.func167, Tryz.ntmps167
  go_wp2_with (go_at_call 176; go_in)
  go_ret
  exact ⟨rfl, rfl⟩

set_option maxHeartbeats 1000000 in
theorem stInHeap_any (s : Int) (w : World) :
    Calls Tryz.prog 166 #[.int .i64 s] w fun e w' => e = .returned (.bool (inHeapB s)) ∧ w = w' := by
  by_cases h1 : s = 1
  · subst h1
    go_enter Tryz.func166, Tryz.ntmps166
    go_wp2
    go_ret
    exact ⟨rfl, rfl⟩
  by_cases h3 : s = 3
  · subst h3
    go_enter Tryz.func166, Tryz.ntmps166
    go_wp2
    go_ret
    exact ⟨rfl, rfl⟩
  by_cases h4 : s = 4
  · subst h4
    go_enter Tryz.func166, Tryz.ntmps166
    go_wp2
    go_ret
    exact ⟨rfl, rfl⟩
  by_cases h5 : s = 5
  · subst h5
    go_enter Tryz.func166, Tryz.ntmps166
    go_wp2
    go_ret
    exact ⟨rfl, rfl⟩
  by_cases h6 : s = 6
  · subst h6
    go_enter Tryz.func166, Tryz.ntmps166
    go_wp2
    go_ret
    exact ⟨rfl, rfl⟩
  have e : inHeapB s = false := by simp [inHeapB, h1, h3, h4, h5, h6]
  rw [e]
  have b1 : (s == 1) = false := by simpa using h1
  have b3 : (s == 3) = false := by simpa using h3
  have b4 : (s == 4) = false := by simpa using h4
  have b5 : (s == 5) = false := by simpa using h5
  have b6 : (s == 6) = false := by simpa using h6
  go_enter Tryz.func166, Tryz.ntmps166
  go_wp2
  go_ret
  exact ⟨rfl, rfl⟩

/-- a timer's numbers -/
def numB (t : Tm) : Bool := inB t.wh 0 1000000000 && (inB t.nx 0 1000000000 && (inB t.pe 0 1000000000 && (inB t.ge 0 100000 && (inB t.ki 0 1 && inB t.ma 0 1000000001))))
/-- the place, as the program tells it -/
def putB (a b c : Int) (t : Tm) : Bool := if t.st = 2 then procB a b c t.pl || t.pl == -1 else if inHeapB t.st then procB a b c t.pl else inB t.st 0 7 && t.pl == -1

set_option maxRecDepth 100000 in
set_option maxHeartbeats 2000000 in
theorem numbers_any (t : Tm) (w : World) :
    Calls Tryz.prog 142 #[tmV t] w fun e w' => e = .returned (.bool (numB t)) ∧ Below w.heap.size w w' := by
  have k0 := (Below.refl w.heap.size w).alloc (Nat.le_refl _) (.cells #[.int .i64 t.st, .int .i64 t.wh, .int .i64 t.nx, .int .i64 t.pe, .int .i64 t.pl, .int .i64 t.ge, .int .i64 t.ki, .int .i64 t.ma] 37)
  cases h0 : inB t.wh 0 1000000000
  · rw [show numB t = false by simp [numB, h0]]
    go_enter Tryz.func142, Tryz.ntmps142
    go_wp2_with (first
        | (go_at_call 157; refine (isTime_any _ _).mono ?_; rintro e w' ⟨rfl, rfl⟩)
        | (go_at_call 74; refine (within_any _ _ _ _).mono ?_; rintro e w' ⟨rfl, rfl⟩))
    go_ret
    exact ⟨rfl, k0⟩
  cases h1 : inB t.nx 0 1000000000
  · rw [show numB t = false by simp [numB, h0, h1]]
    go_enter Tryz.func142, Tryz.ntmps142
    go_wp2_with (first
        | (go_at_call 157; refine (isTime_any _ _).mono ?_; rintro e w' ⟨rfl, rfl⟩)
        | (go_at_call 74; refine (within_any _ _ _ _).mono ?_; rintro e w' ⟨rfl, rfl⟩))
    go_ret
    exact ⟨rfl, k0⟩
  cases h2 : inB t.pe 0 1000000000
  · rw [show numB t = false by simp [numB, h0, h1, h2]]
    go_enter Tryz.func142, Tryz.ntmps142
    go_wp2_with (first
        | (go_at_call 157; refine (isTime_any _ _).mono ?_; rintro e w' ⟨rfl, rfl⟩)
        | (go_at_call 74; refine (within_any _ _ _ _).mono ?_; rintro e w' ⟨rfl, rfl⟩))
    go_ret
    exact ⟨rfl, k0⟩
  cases h3 : inB t.ge 0 100000
  · rw [show numB t = false by simp [numB, h0, h1, h2, h3]]
    go_enter Tryz.func142, Tryz.ntmps142
    go_wp2_with (first
        | (go_at_call 157; refine (isTime_any _ _).mono ?_; rintro e w' ⟨rfl, rfl⟩)
        | (go_at_call 74; refine (within_any _ _ _ _).mono ?_; rintro e w' ⟨rfl, rfl⟩))
    go_ret
    exact ⟨rfl, k0⟩
  cases h4 : inB t.ki 0 1
  · rw [show numB t = false by simp [numB, h0, h1, h2, h3, h4]]
    go_enter Tryz.func142, Tryz.ntmps142
    go_wp2_with (first
        | (go_at_call 157; refine (isTime_any _ _).mono ?_; rintro e w' ⟨rfl, rfl⟩)
        | (go_at_call 74; refine (within_any _ _ _ _).mono ?_; rintro e w' ⟨rfl, rfl⟩))
    go_ret
    exact ⟨rfl, k0⟩
  cases h5 : inB t.ma 0 1000000001
  · rw [show numB t = false by simp [numB, h0, h1, h2, h3, h4, h5]]
    go_enter Tryz.func142, Tryz.ntmps142
    go_wp2_with (first
        | (go_at_call 157; refine (isTime_any _ _).mono ?_; rintro e w' ⟨rfl, rfl⟩)
        | (go_at_call 74; refine (within_any _ _ _ _).mono ?_; rintro e w' ⟨rfl, rfl⟩))
    go_ret
    exact ⟨rfl, k0⟩
  rw [show numB t = true by simp [numB, h0, h1, h2, h3, h4, h5]]
  go_enter Tryz.func142, Tryz.ntmps142
  go_wp2_with (first
      | (go_at_call 157; refine (isTime_any _ _).mono ?_; rintro e w' ⟨rfl, rfl⟩)
      | (go_at_call 74; refine (within_any _ _ _ _).mono ?_; rintro e w' ⟨rfl, rfl⟩))
  go_ret
  exact ⟨rfl, k0⟩

set_option maxRecDepth 100000 in
set_option maxHeartbeats 2000000 in
theorem next_any (t : Tm) (w : World) :
    Calls Tryz.prog 144 #[tmV t] w fun e w' => e = .returned (.bool (nextB t)) ∧ Below w.heap.size w w' := by
  have k0 := (Below.refl w.heap.size w).alloc (Nat.le_refl _) (.cells #[.int .i64 t.st, .int .i64 t.wh, .int .i64 t.nx, .int .i64 t.pe, .int .i64 t.pl, .int .i64 t.ge, .int .i64 t.ki, .int .i64 t.ma] 37)
  obtain ⟨st, wh, nx, pe, pl, ge, ki, ma⟩ := t
  by_cases h3 : st = 3
  · subst h3
    rw [show nextB ⟨3, wh, nx, pe, pl, ge, ki, ma⟩ = decide (nx < wh) by simp [nextB]]
    go_enter Tryz.func144, Tryz.ntmps144
    go_wp2
    go_ret
    exact ⟨rfl, k0⟩
  by_cases h4 : st = 4
  · subst h4
    rw [show nextB ⟨4, wh, nx, pe, pl, ge, ki, ma⟩ = decide (wh ≤ nx) by simp [nextB]]
    go_enter Tryz.func144, Tryz.ntmps144
    go_wp2
    go_ret
    exact ⟨rfl, k0⟩
  rw [show nextB ⟨st, wh, nx, pe, pl, ge, ki, ma⟩ = true by simp [nextB, h3, h4]]
  have b3 : (st == 3) = false := by simpa using h3
  have b4 : (st == 4) = false := by simpa using h4
  go_enter Tryz.func144, Tryz.ntmps144
  go_wp2
  go_ret
  exact ⟨rfl, k0⟩

end Go.Proofs.YtpgfffmojcaocaaGreat

/-
  The draws: the code, a cursor over its bytes, and the numbers that it gives; nothing but its own block is written.
-/
namespace Go.Proofs.YtpgfffmojcaocaaGreat
open Go.RowKit Go.Joins Go.ChangeShapes Go.WideShapes Go.ChangeAt
set_option linter.unusedVariables false

/-! ### The code and the cursor -/
/-- the bytes of the code: no memory at all, or bytes that can be read, in a block below B -/
def CodeAt (w : World) (B : Nat) (sl : Value) (len : Nat) : Prop :=
  (len = 0 ∧ ∃ (a : Option Addr) (cap : Nat), sl = .slice a 0 cap) ∨ ∃ (b off cap : Nat) (zs : List Int), sl = .slice (some ⟨b, off, none⟩) len cap ∧ b < B ∧ B ≤ w.heap.size ∧ (∀ k, k < len → w.cell? ⟨b, off + k, none⟩ = some (.int .u8 (zs.getD k 0))) ∧ ∀ k, 0 ≤ zs.getD k 0 ∧ zs.getD k 0 ≤ 255
theorem CodeAt.kept {w w' : World} {B len g : Nat} {sl : Value} (h : CodeAt w B sl len) (hg : w.grownBy w' (some g)) (hB : B ≤ g) : CodeAt w' B sl len := by
  rcases h with h | ⟨b, off, cap, zs, h1, h2, h3, h4, h5⟩
  · exact .inl h
  · exact .inr ⟨b, off, cap, zs, h1, h2, Nat.le_trans h3 hg.size, fun k hk => (g_cell hg (by omega) (by omega) _).trans (h4 k hk), h5⟩
/-- the cursor's block -/
def CurAt (w : World) (B g : Nat) (sl : Value) (len : Nat) : Prop :=
  B ≤ g ∧ len ≤ 4096 ∧ CodeAt w B sl len ∧ ∃ (k : Nat) (h : Int), k ≤ len ∧ w.heap[g]? = some (.cells #[sl, .int .i64 (k : Int), .int .i64 h] 95 (0, 0))
theorem CurAt.lt {w : World} {B g len : Nat} {sl : Value} (h : CurAt w B g sl len) : g < w.heap.size := by
  obtain ⟨_, _, _, k, x, _, hh⟩ := h
  exact lt_of_block hh
theorem CurAt.alloc {w : World} {B g len : Nat} {sl : Value} (h : CurAt w B g sl len) (o : Obj) : CurAt (w.alloc o) B g sl len := by
  have hl := h.lt
  obtain ⟨h1, h2, h3, k, x, hk, hh⟩ := h
  exact ⟨h1, h2, h3.kept (World.grownBy_alloc w o (some g)) h1, k, x, hk, (Below.heap_alloc w o g hl).trans hh⟩
theorem CurAt.kept {w w' : World} {B g b len : Nat} {sl : Value} (h : CurAt w B g sl len) (hk : w.grownBy w' (some b)) (hb : B ≤ b) (hn : b ≠ g) : CurAt w' B g sl len := by
  have hl := h.lt
  obtain ⟨h1, h2, h3, k, x, hk1, hh⟩ := h
  exact ⟨h1, h2, h3.kept hk hb, k, x, hk1, (hk.block g hl (by intro e; injection e; omega)).trans hh⟩
theorem CurAt.set {w : World} {B g len : Nat} {sl : Value} (h : CurAt w B g sl len) {b : Nat} (hb : B ≤ b) (hn : b ≠ g) (o : Nat) (u : Value) : CurAt (w.setCell ⟨b, o, none⟩ u) B g sl len :=
  h.kept (g_own (g_refl w _) o u) hb hn
theorem CurAt.base {w : World} {B g len : Nat} {sl : Value} (h : CurAt w B g sl len) : B ≤ g := h.1
/-- a call that draws a number from lo to hi -/
def Drawn (B g : Nat) (sl : Value) (len : Nat) (lo hi : Int) (w : World) (e : Ending) (w' : World) : Prop :=
  ∃ x : Int, lo ≤ x ∧ x ≤ hi ∧ e = .returned (.int .i64 x) ∧ CurAt w' B g sl len ∧ w.grownBy w' (some g)

def ByteIn (g k : Nat) (w : World) (e : Ending) (w' : World) : Prop :=
  ∃ (x y : Int) (n : Nat), 0 ≤ x ∧ x ≤ 255 ∧ e = .returned (.int .i64 x) ∧ w' = (((w.setCell ⟨g, 2, none⟩ (.int .i64 y)).drewN n).setCell ⟨g, 1, none⟩ (.int .i64 ((k : Int) + 1)))
def ByteOut (g : Nat) (w : World) (e : Ending) (w' : World) : Prop :=
  ∃ (x y : Int) (n : Nat), 0 ≤ x ∧ x ≤ 255 ∧ e = .returned (.int .i64 x) ∧ w' = ((w.setCell ⟨g, 2, none⟩ (.int .i64 y)).drewN n)

set_option maxHeartbeats 400000 in
theorem l1Byte_in (g b off len cap k : Nat) (h z : Int) (w : World) (hlen : len ≤ 4096) (hk : k < len)
    (h0 : w.cell? ⟨g, 0, none⟩ = some (.slice (some ⟨b, off, none⟩) len cap)) (h1 : w.cell? ⟨g, 1, none⟩ = some (.int .i64 (k : Int))) (h2 : w.cell? ⟨g, 2, none⟩ = some (.int .i64 h))
    (f1 : w.frozen? ⟨g, 1, none⟩ = false) (f2 : w.frozen? ⟨g, 2, none⟩ = false) (hne : b ≠ g) (hc : w.cell? ⟨b, off + k, none⟩ = some (.int .u8 z)) :
    Calls Tryz.prog 91 #[.pointer (some ⟨g, 0, none⟩)] w (ByteIn g k w) := by
  go_enter Tryz.func91, Tryz.ntmps91
  go_wp2
  go_quiet (fail)
  go_wp2
  go_quiet (fail)
  go_wp2
  go_quiet (fail)
  go_wp2
  go_ret
  exact ⟨_, _, _, (and_i64 _ _ (by decide) (by decide)).1, (and_i64 _ _ (by decide) (by decide)).2, rfl, rfl⟩

set_option maxHeartbeats 400000 in
theorem l1Byte_out (g len cap k : Nat) (a : Option Addr) (h : Int) (w : World) (hlen : len ≤ 4096) (hk : len ≤ k) (hk2 : k ≤ 4096)
    (h0 : w.cell? ⟨g, 0, none⟩ = some (.slice a len cap)) (h1 : w.cell? ⟨g, 1, none⟩ = some (.int .i64 (k : Int))) (h2 : w.cell? ⟨g, 2, none⟩ = some (.int .i64 h))
    (f2 : w.frozen? ⟨g, 2, none⟩ = false) :
    Calls Tryz.prog 91 #[.pointer (some ⟨g, 0, none⟩)] w (ByteOut g w) := by
  go_enter Tryz.func91, Tryz.ntmps91
  go_wp2
  go_quiet (fail)
  go_wp2
  go_quiet (fail)
  go_wp2
  simp only [World.drewN_drewN]
  go_ret
  exact ⟨_, _, _, (and_i64 _ _ (by decide) (by decide)).1, (and_i64 _ _ (by decide) (by decide)).2, rfl, rfl⟩

theorem l1Byte_any {B g len : Nat} {sl : Value} {w : World} (hC : CurAt w B g sl len) :
    Calls Tryz.prog 91 #[.pointer (some ⟨g, 0, none⟩)] w (Drawn B g sl len 0 255 w) := by
  have hlt := hC.lt
  obtain ⟨hB, hlen, hcode, k, h, hk, hh⟩ := hC
  have f := unfrozen_of_block hh
  have c0 : w.cell? ⟨g, 0, none⟩ = some sl := cell_of_block hh 0
  have c1 : w.cell? ⟨g, 1, none⟩ = some (.int .i64 (k : Int)) := cell_of_block hh 1
  have c2 : w.cell? ⟨g, 2, none⟩ = some (.int .i64 h) := cell_of_block hh 2
  by_cases hkl : k < len
  · rcases hcode with ⟨hz, _⟩ | ⟨b, off, cap, zs, rfl, hb, hBs, hcell, hzs⟩
    · omega
    · refine (l1Byte_in g b off len cap k h _ w hlen hkl c0 c1 c2 (f 1) (f 2) (by omega) (hcell k hkl)).mono fun e w' he => ?_
      obtain ⟨x, y, n, hx0, hx1, rfl, rfl⟩ := he
      have hg : w.grownBy (((w.setCell ⟨g, 2, none⟩ (.int .i64 y)).drewN n).setCell ⟨g, 1, none⟩ (.int .i64 ((k : Int) + 1))) (some g) := g_own (g_drewN (g_own (g_refl w _) 2 _) n) 1 _
      have hb2 : ((w.setCell ⟨g, 2, none⟩ (.int .i64 y)).drewN n).heap[g]? = some (.cells #[.slice (some ⟨b, off, none⟩) len cap, .int .i64 (k : Int), .int .i64 y] 95 (0, 0)) := block_setCell hh (i := 2) (.int .i64 y)
      have hb3 := block_setCell hb2 (i := 1) (.int .i64 ((k : Int) + 1))
      simp only [List.setIfInBounds_toArray, List.set_cons_succ, List.set_cons_zero] at hb3
      exact ⟨x, hx0, hx1, rfl, ⟨hB, hlen, CodeAt.kept (.inr ⟨b, off, cap, zs, rfl, hb, hBs, hcell, hzs⟩) hg hB, k + 1, y, hkl, hb3⟩, hg⟩
  · have hsl : ∃ a cap, sl = .slice a len cap := by
      rcases hcode with ⟨rfl, a, cap, rfl⟩ | ⟨b, off, cap, zs, rfl, _⟩
      · exact ⟨_, _, rfl⟩
      · exact ⟨_, _, rfl⟩
    obtain ⟨a, cap, rfl⟩ := hsl
    refine (l1Byte_out g len cap k a h w hlen (by omega) (by omega) c0 c1 c2 (f 2)).mono fun e w' he => ?_
    obtain ⟨x, y, n, hx0, hx1, rfl, rfl⟩ := he
    have hg : w.grownBy ((w.setCell ⟨g, 2, none⟩ (.int .i64 y)).drewN n) (some g) := g_drewN (g_own (g_refl w _) 2 _) n
    exact ⟨x, hx0, hx1, rfl, ⟨hB, hlen, hcode.kept hg hB, k, y, hk, block_setCell hh (i := 2) (.int .i64 y)⟩, hg⟩

/-! ### numbers from 0 on -/
set_option maxHeartbeats 400000 in
theorem l1Below_any {B g len : Nat} {sl : Value} {w : World} (n : Int) (hn : 1 ≤ n) (hn2 : n ≤ 4611686018427387904) (hC : CurAt w B g sl len) :
    Calls Tryz.prog 50 #[.pointer (some ⟨g, 0, none⟩), .int .i64 n] w (Drawn B g sl len 0 (n - 1) w) := by
  by_cases h256 : n ≤ 256
  · go_enter Tryz.func50, Tryz.ntmps50
    go_wp2_with (go_at_call 91; refine (l1Byte_any hC).mono ?_; rintro e w1 ⟨x, hx0, hx1, rfl, hC1, hg1⟩)
    go_ret
    exact ⟨_, Int.emod_nonneg _ (by omega), by have := Int.emod_lt_of_pos x (show 0 < n by omega); omega, rfl, hC1, hg1⟩
  · go_enter Tryz.func50, Tryz.ntmps50
    go_wp2_with fail
    go_at_call 91; refine (l1Byte_any hC).mono ?_; rintro e w1 ⟨x1, a1, b1, rfl, hC1, hg1⟩
    go_wp2_with fail
    go_at_call 91; refine (l1Byte_any hC1).mono ?_; rintro e w2 ⟨x2, a2, b2, rfl, hC2, hg2⟩
    go_wp2_with fail
    go_at_call 91; refine (l1Byte_any hC2).mono ?_; rintro e w3 ⟨x3, a3, b3, rfl, hC3, hg3⟩
    go_wp2_with fail
    go_at_call 91; refine (l1Byte_any hC3).mono ?_; rintro e w4 ⟨x4, a4, b4, rfl, hC4, hg4⟩
    go_wp2
    go_ret
    exact ⟨_, Int.emod_nonneg _ (by omega), by have := Int.emod_lt_of_pos (x1 * 16777216 + x2 * 65536 + x3 * 256 + x4) (show 0 < n by omega); omega, rfl, hC4, g_trans (g_trans (g_trans hg1 hg2) hg3) hg4⟩

set_option maxHeartbeats 400000 in
theorem l1From_any {B g len : Nat} {sl : Value} {w : World} (lo hi : Int) (h0 : -1099511627776 ≤ lo) (h1 : lo ≤ hi) (h2 : hi ≤ 1099511627776) (hC : CurAt w B g sl len) :
    Calls Tryz.prog 32 #[.pointer (some ⟨g, 0, none⟩), .int .i64 lo, .int .i64 hi] w (Drawn B g sl len lo hi w) := by
  go_enter Tryz.func32, Tryz.ntmps32
  go_wp2_with fail
  go_at_call 50; refine (l1Below_any _ (by omega) (by omega) hC).mono ?_; rintro e w1 ⟨x, hx0, hx1, rfl, hC1, hg1⟩
  go_wp2
  go_ret
  exact ⟨_, by omega, by omega, rfl, hC1, hg1⟩

/-- a call that draws yes or no -/
def DrawnB (B g : Nat) (sl : Value) (len : Nat) (w : World) (e : Ending) (w' : World) : Prop :=
  ∃ x : Bool, e = .returned (.bool x) ∧ CurAt w' B g sl len ∧ w.grownBy w' (some g)
set_option maxHeartbeats 400000 in
theorem l1Once_any {B g len : Nat} {sl : Value} {w : World} (n : Int) (hn : 1 ≤ n) (hn2 : n ≤ 4611686018427387904) (hC : CurAt w B g sl len) :
    Calls Tryz.prog 48 #[.pointer (some ⟨g, 0, none⟩), .int .i64 n] w (DrawnB B g sl len w) := by
  go_enter Tryz.func48, Tryz.ntmps48
  go_wp2_with fail
  go_at_call 50; refine (l1Below_any _ hn hn2 hC).mono ?_; rintro e w1 ⟨x, hx0, hx1, rfl, hC1, hg1⟩
  go_wp2
  go_ret
  exact ⟨_, rfl, hC1, hg1⟩

theorem CodeAt.below {w w' : World} {B len : Nat} {sl : Value} (h : CodeAt w B sl len) (hb : Below B w w') : CodeAt w' B sl len := by
  rcases h with h | ⟨b, off, cap, zs, h1, h2, h3, h4, h5⟩
  · exact .inl h
  · exact .inr ⟨b, off, cap, zs, h1, h2, Nat.le_trans h3 hb.size, fun k hk => (hb.cell (p := ⟨b, off + k, none⟩) h2).trans (h4 k hk), h5⟩

/-- a cursor made new: one new block -/
def NewCur (sl : Value) (w : World) (e : Ending) (w' : World) : Prop :=
  ∃ h : Int, e = .returned (.pointer (some ⟨w.heap.size, 0, none⟩)) ∧ w' = w.alloc (.cells #[sl, .int .i64 0, .int .i64 h] 95)

set_option maxHeartbeats 400000 in
theorem l1New_some (b off len cap : Nat) (zs : List Int) (w : World) (hlen : len ≤ 4096) (hcell : ∀ k, k < len → w.cell? ⟨b, off + k, none⟩ = some (.int .u8 (zs.getD k 0))) :
    Calls Tryz.prog 30 #[.slice (some ⟨b, off, none⟩) len cap] w (NewCur (.slice (some ⟨b, off, none⟩) len cap) w) := by
  have H := Lib.hid hcell
  clear hcell
  go_enter Tryz.func30, Tryz.ntmps30
  go_wp2
  go_loop [3, 4] (fun h i => ∃ (k : Nat) (x : Int), k ≤ len ∧ i = .int .i64 k ∧ h = .int .i64 x) (fun _ i => len - (intOf i).toNat)
  case atStart => exact ⟨0, _, Nat.zero_le _, rfl, rfl⟩
  case round =>
    obtain ⟨k, x, hk, rfl, rfl⟩ := hrel
    by_cases hlt : k < len
    · have hc := H.out k hlt
      go_wp2
      go_round
      case rel => exact ⟨k + 1, _, by omega, by go_num, rfl⟩
      case measure => simp [intOf]; omega
    · go_wp2
      go_ret
      exact ⟨_, rfl, rfl⟩

set_option maxHeartbeats 400000 in
theorem l1New_none (a : Option Addr) (cap : Nat) (w : World) :
    Calls Tryz.prog 30 #[.slice a 0 cap] w (NewCur (.slice a 0 cap) w) := by
  go_enter Tryz.func30, Tryz.ntmps30
  go_wp2
  go_loop [3, 4] (fun h i => i = .int .i64 0 ∧ ∃ x : Int, h = .int .i64 x) (fun _ i => 0)
  case atStart => exact ⟨rfl, _, rfl⟩
  case round =>
    obtain ⟨rfl, x, rfl⟩ := hrel
    go_wp2
    go_ret
    exact ⟨_, rfl, rfl⟩

theorem l1New_any {B len : Nat} {sl : Value} {w : World} (n : Nat) (hn : n = w.heap.size) (hlen : len ≤ 4096) (hcode : CodeAt w B sl len) (hB : B ≤ n) :
    Calls Tryz.prog 30 #[sl] w fun e w' => e = .returned (.pointer (some ⟨n, 0, none⟩)) ∧ CurAt w' B n sl len ∧ Below n w w' := by
  subst hn
  have core : Calls Tryz.prog 30 #[sl] w (NewCur sl w) := by
    rcases hcode with ⟨rfl, a, cap, rfl⟩ | ⟨b, off, cap, zs, rfl, h2, h3, h4, h5⟩
    · exact l1New_none a cap w
    · exact l1New_some b off len cap zs w hlen h4
  refine core.mono fun e w' he => ?_
  obtain ⟨h, rfl, rfl⟩ := he
  exact ⟨rfl, ⟨hB, hlen, hcode.kept (World.grownBy_alloc w _ (some w.heap.size)) hB, 0, h, Nat.zero_le _, heap_alloc_new w _⟩, (Below.refl _ _).alloc (Nat.le_refl _) _⟩

set_option maxRecDepth 100000 in
/-- a code that came in, as data: what the walk is told of it -/
theorem code_in {H : Type} {enc : TypeId × Value → H} {W : World} {base : Nat} {v : Value} {d : DataW H} {p : List MemPlace}
    (hv : Value.okWide Tryz.prog W .any base 22 v) (h : DataW.Trod enc Tryz.prog W 0 (fun _ => true) true 22 v d p) :
    ∃ (a : Option Addr) (len cap : Nat), v = .slice a len cap ∧ len ≤ maxLen ∧ CodeAt W W.heap.size v len := by
  obtain ⟨a, len, cap, rfl⟩ := okWide_slice Tryz.underlying22 hv
  obtain ⟨fuel, hf⟩ := h
  rcases open_ints Tryz.underlying22 Tryz.underlying5 (by kernel_rfl) hf with ⟨hcs, _⟩ | ⟨x, l, c, zs, hcs, _, hl, hm, hz, _, hcell, hwz⟩
  · simp [Value.cells] at hcs
    obtain ⟨rfl, rfl, rfl⟩ := hcs
    exact ⟨_, _, _, rfl, Nat.zero_le _, .inl ⟨rfl, _, _, rfl⟩⟩
  · simp [Value.cells] at hcs
    obtain ⟨rfl, rfl, rfl⟩ := hcs
    refine ⟨_, _, _, rfl, Nat.le_trans hl hm, ?_⟩
    rcases Nat.eq_zero_or_pos len with rfl | hp
    · exact .inl ⟨rfl, _, _, rfl⟩
    · have hzl : zs.length = cap := by simpa using hz
      obtain ⟨b, off, rfl, hc⟩ := ints_at hcell (by omega)
      have hb : b < W.heap.size := World.block_lt_of_cell? W _ (hc 0 (by omega))
      refine .inr ⟨b, off, cap, zs, rfl, hb, Nat.le_refl _, fun k hk => hc k (by omega), fun k => ?_⟩
      rw [List.getD_eq_getElem?_getD]
      cases hg : zs[k]? with
      | none => simp
      | some z =>
        have hw := hwz z (List.mem_of_getElem? hg)
        have := bounds_u8 hw
        simpa using this

end Go.Proofs.YtpgfffmojcaocaaGreat
