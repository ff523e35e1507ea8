/-
  FnTimers, told what the program's own functions answer: the walk.
-/
import Derived.Test.YthhpnepcfpapcaaDoorTimerExact
import Derived.Test.YthhpnepcfpapcaaDoorTimerDraw2
import Derived.Test.YthhpnepcfpapcaaDoorPassTab
namespace Go.Proofs.YthhpnepcfpapcaaDoor
open Go.RowKit Go.Joins
set_option linter.unusedVariables false

/-- the pairs from -1 to 8 that may pass, of the first m in the loops' order -/
def wayN : Nat → Nat
  | 0 => 0
  | m + 1 => wayN m + if passB ((m / 10 : Nat) - 1) ((m % 10 : Nat) - 1) then 1 else 0
theorem wayN_le : ∀ m, wayN m ≤ m
  | 0 => Nat.le_refl _
  | m + 1 => by
    have := wayN_le m
    rw [wayN]
    split <;> omega
theorem wayN_all : wayN 100 = 16 := by decide
theorem wayN_yes {r c : Nat} (hc : c < 10) (h : passB ((r : Int) - 1) ((c : Int) - 1) = true) : wayN (10 * r + c + 1) = wayN (10 * r + c) + 1 := by
  rw [wayN, show (10 * r + c) / 10 = r by omega, show (10 * r + c) % 10 = c by omega, if_pos h]
theorem wayN_no {r c : Nat} (hc : c < 10) (h : passB ((r : Int) - 1) ((c : Int) - 1) = false) : wayN (10 * r + c + 1) = wayN (10 * r + c) := by
  rw [wayN, show (10 * r + c) / 10 = r by omega, show (10 * r + c) % 10 = c by omega, if_neg (by rw [h]; decide)]
  rfl
theorem passB_self (a : Int) : passB a a = false := by
  unfold passB
  by_cases h0 : a = 0
  · subst h0; rfl
  by_cases h7 : a = 7
  · subst h7; rfl
  by_cases h1 : a = 1
  · subst h1; rfl
  by_cases h2 : a = 2
  · subst h2; rfl
  by_cases h3 : a = 3
  · subst h3; rfl
  by_cases h4 : a = 4
  · subst h4; rfl
  by_cases h5 : a = 5
  · subst h5; rfl
  by_cases h6 : a = 6
  · subst h6; rfl
  simp [h0, h1, h2, h3, h4, h5, h6, h7]
theorem timerB_place {a b c : Int} {t : Tm} (h : timerB a b c t = true) (hi : inHeapB t.st = true) : 0 ≤ t.pl ∧ t.pl < a := by
  simp only [timerB, placeB, hi, if_true, Bool.and_eq_true] at h
  have := (procB_iff.1 h.2.2.2.2.2.2.2.2.1).2
  omega

theorem CodeAt.top {w : World} {B len : Nat} {sl : Value} (h : CodeAt w B sl len) : CodeAt w w.heap.size sl len := by
  rcases h with h | ⟨b, off, cap, zs, h1, h2, h3, h4, h5⟩
  · exact .inl h
  · exact .inr ⟨b, off, cap, zs, h1, Nat.lt_of_lt_of_le h2 h3, Nat.le_refl _, h4, h5⟩

set_option maxRecDepth 100000 in
set_option maxHeartbeats 4000000 in
theorem timers_small (hT : AsksT 9) (hS : AsksS 13) (hP : AsksP 11) {sl : Value} {len : Nat} {w : World} (hlen : len ≤ 4096) (hsl : ∃ a cap, sl = .slice a len cap) (hcode : CodeAt w w.heap.size sl len) (hTab : TabAt w) :
    Calls Tryd.prog 3 #[sl] w fun e w' => e = .returned (.bool true) ∧ Below w.heap.size w w' := by
  have hcode0 := Lib.hid hcode
  have hTb := Lib.hid hTab
  obtain ⟨a0, cap0, rfl⟩ := hsl
  clear hcode hTab
  go_enter Tryd.func3, Tryd.ntmps3
  go_wp2_with (go_at_call 5; go_in)
  go_at_call 6; refine (drawTimerOk_any hlen hcode0.out).mono ?_; rintro e w1 ⟨a, b, c, t, rfl, kk⟩
  have hPv := alloc_block (tmO t 27) (heap_alloc_new w1 (plO a b c 25))
  have hTv := heap_alloc_new (w1.alloc (plO a b c 25)) (tmO t 27)
  rw [show (w1.alloc (plO a b c 25)).heap.size = w1.heap.size + 1 by simp] at hTv
  have hs1 := kk.size
  replace kk := (kk.alloc kk.size (plO a b c 25)).alloc (by simp; omega) (tmO t 27)
  have hsz : w1.heap.size + 2 ≤ ((w1.alloc (plO a b c 25)).alloc (tmO t 27)).heap.size := by simp
  go_wp2_with fail
  go_at_call 7; refine (drawPasses_any hlen (hcode0.out.below kk).top).mono ?_; rintro e w2 ⟨x, y, rfl, hb⟩
  replace hPv := b_block hb hPv (by have := hb.size; omega); replace hTv := b_block hb hTv (by have := hb.size; omega)
  replace kk := kk.trans (hb.mono kk.size); replace hsz := Nat.le_trans hsz hb.size; clear hb
  go_wp2_with fail
  go_at_call 8; refine (drawInHeap_any hlen (hcode0.out.below kk).top).mono ?_; rintro e w3 ⟨n, rfl, hb⟩
  replace hPv := b_block hb hPv (by have := hb.size; omega); replace hTv := b_block hb hTv (by have := hb.size; omega)
  replace kk := kk.trans (hb.mono kk.size); replace hsz := Nat.le_trans hsz hb.size; clear hb
  obtain ⟨v0, v1, v2, _, _, _⟩ := three hPv
  obtain ⟨t0, t1, t2, t3, t4, t5, t6, t7⟩ := eight_cells (t := t) hTv
  go_wp2_with fail
  go_at_call 9; refine (hT _ _ _ _ _).mono ?_; rintro e w4 ⟨rfl, hb⟩
  replace hPv := b_block hb hPv (by have := hb.size; omega); replace hTv := b_block hb hTv (by have := hb.size; omega)
  replace kk := kk.trans (hb.mono kk.size); replace hsz := Nat.le_trans hsz hb.size; clear hb
  clear v0 v1 v2 t0 t1 t2 t3 t4 t5 t6 t7
  obtain ⟨v0, v1, v2, _, _, _⟩ := three hPv
  obtain ⟨t0, t1, t2, t3, t4, t5, t6, t7⟩ := eight_cells (t := t) hTv
  go_wp2_with fail
  go_at_call 10; refine (spTimerOk_any _ _ _ _ _).mono ?_; rintro e w5 ⟨rfl, hb⟩
  replace hPv := b_block hb hPv (by have := hb.size; omega); replace hTv := b_block hb hTv (by have := hb.size; omega)
  replace kk := kk.trans (hb.mono kk.size); replace hsz := Nat.le_trans hsz hb.size; clear hb
  clear v0 v1 v2 t0 t1 t2 t3 t4 t5 t6 t7
  go_wp2_with fail
  go_at_call 11; refine (hP _ _ _ (hTb.out.step kk)).mono ?_; rintro e w6 ⟨rfl, hb⟩
  replace hPv := b_block hb hPv (by have := hb.size; omega); replace hTv := b_block hb hTv (by have := hb.size; omega)
  replace kk := kk.trans (hb.mono kk.size); replace hsz := Nat.le_trans hsz hb.size; clear hb
  go_wp2_with fail
  go_at_call 12; refine (spPasses_any _ _ _).mono ?_; rintro e w' ⟨rfl, rfl⟩
  go_wp2_with fail
  go_at_call 13; refine (hS _ _).mono ?_; rintro e w7 ⟨rfl, hb⟩
  replace hPv := b_block hb hPv (by have := hb.size; omega); replace hTv := b_block hb hTv (by have := hb.size; omega)
  replace kk := kk.trans (hb.mono kk.size); replace hsz := Nat.le_trans hsz hb.size; clear hb
  go_wp2_with fail
  go_at_call 14; refine (spInHeap_any _ _).mono ?_; rintro e w' ⟨rfl, rfl⟩
  go_wp2_with fail
  go_at_call 11; refine (hP _ _ _ (hTb.out.step kk)).mono ?_; rw [passB_self]; rintro e w8 ⟨rfl, hb⟩
  replace hPv := b_block hb hPv (by have := hb.size; omega); replace hTv := b_block hb hTv (by have := hb.size; omega)
  replace kk := kk.trans (hb.mono kk.size); replace hsz := Nat.le_trans hsz hb.size; clear hb
  have hTb8 := Lib.hid (hTb.out.step kk)
  go_wp2_with fail
  go_loopw [9, 10] (fun n i wr => ∃ r : Nat, r ≤ 10 ∧ i = .int .i64 ((r : Int) - 1) ∧ n = .int .i64 (wayN (10 * r) : Nat) ∧ Below w8.heap.size w8 wr) (fun _ i _ => (9 - intOf i).toNat)
  case atStart => exact ⟨0, by omega, rfl, rfl, Below.refl _ _⟩
  case round =>
    obtain ⟨r, hr, rfl, rfl, hbr⟩ := hrel
    by_cases hr10 : r < 10
    · have h1 : (r : Int) - 1 < 9 := by omega
      have hw := wayN_le (10 * r)
      go_wp2_with fail
      go_loopw [9, 11] (fun n k wi => ∃ c : Nat, c ≤ 10 ∧ k = .int .i64 ((c : Int) - 1) ∧ n = .int .i64 (wayN (10 * r + c) : Nat) ∧ Below w8.heap.size w8 wi) (fun _ k _ => (9 - intOf k).toNat)
      case atStart => exact ⟨0, by omega, rfl, rfl, hbr⟩
      case round =>
        obtain ⟨c2, hc, rfl, rfl, hbi⟩ := hrel
        by_cases hc10 : c2 < 10
        · have h2 : (c2 : Int) - 1 < 9 := by omega
          have hw2 := wayN_le (10 * r + c2)
          have hw3 : (wayN (10 * r + c2) : Int) ≤ 110 := by omega
          cases hp : passB ((r : Int) - 1) ((c2 : Int) - 1)
          · have HN := Lib.hid (wayN_no hc10 hp)
            have HP := Lib.hid hp
            clear hp hw2
            go_wp2_with fail
            go_at_call 11; refine (hP _ _ _ (hTb8.out.step hbi)).mono ?_; rw [HP.out]; rintro e wz ⟨rfl, hb⟩
            have hbz := hbi.trans (hb.mono hbi.size)
            go_wp2
            exact ⟨⟨c2 + 1, by omega, congrArg (Value.int .i64) (by omega), congrArg (fun x : Nat => Value.int .i64 (x : Int)) HN.out.symm, hbz⟩, by simp only [intOf]; omega⟩
          · have HN := Lib.hid (wayN_yes hc10 hp)
            have HP := Lib.hid hp
            clear hp hw2
            go_wp2_with fail
            go_at_call 11; refine (hP _ _ _ (hTb8.out.step hbi)).mono ?_; rw [HP.out]; rintro e wz ⟨rfl, hb⟩
            have hbz := hbi.trans (hb.mono hbi.size)
            go_wp2
            exact ⟨⟨c2 + 1, by omega, congrArg (Value.int .i64) (by omega), congrArg (Value.int .i64) (by rw [show 10 * r + (c2 + 1) = 10 * r + c2 + 1 by omega, HN.out]; omega), hbz⟩, by simp only [intOf]; omega⟩
        · have h2 : ¬ (c2 : Int) - 1 < 9 := by omega
          go_wp2
          exact ⟨⟨r + 1, by omega, congrArg (Value.int .i64) (by omega), congrArg (fun x : Nat => Value.int .i64 (wayN x : Int)) (by omega), hbi⟩, by simp only [intOf]; omega⟩
    · have hr2 : r = 10 := by omega
      subst hr2
      have hw : wayN (10 * 10) = 16 := wayN_all
      rw [hw]
      clear hw
      have hPe := b_block hbr hPv (by omega)
      have hTe := b_block hbr hTv (by omega)
      have kend := kk.trans (hbr.mono kk.size)
      obtain ⟨v0, v1, v2, _, _, _⟩ := three hPe
      obtain ⟨t0, t1, t2, t3, t4, t5, t6, t7⟩ := eight_cells (t := t) hTe
      cases htb : timerB a b c t
      · go_wp2
        go_ret
        exact ⟨rfl, kend⟩
      · cases hih : inHeapB t.st
        · have HI := Lib.hid hih
          go_wp2_with fail
          go_at_call 13; refine (hS _ _).mono ?_; rw [HI.out]; rintro e wz ⟨rfl, hb⟩
          have kz := kend.trans (hb.mono kend.size)
          go_wp2
          go_ret
          exact ⟨rfl, kz⟩
        · obtain ⟨q0, q1⟩ := timerB_place htb hih
          have HI := Lib.hid hih
          have z0 : decide (0 ≤ t.pl) = true := by simpa using q0
          have z1 : decide (t.pl < a) = true := by simpa using q1
          go_wp2_with fail
          go_at_call 13; refine (hS _ _).mono ?_; rw [HI.out]; rintro e wz ⟨rfl, hb⟩
          have kz := kend.trans (hb.mono kend.size)
          have hPz := b_block hb hPe (lt_of_block hPe)
          have hTz := b_block hb hTe (lt_of_block hTe)
          have y0 : wz.cell? ⟨w1.heap.size, 0, none⟩ = some (.int .i64 a) := cell_of_block hPz 0
          have y4 : wz.cell? ⟨w1.heap.size + 1, 4, none⟩ = some (.int .i64 t.pl) := cell_of_block hTz 4
          clear hPz hTz hPe hTe hb
          go_wp2
          go_ret
          exact ⟨rfl, kz⟩

end Go.Proofs.YthhpnepcfpapcaaDoor
