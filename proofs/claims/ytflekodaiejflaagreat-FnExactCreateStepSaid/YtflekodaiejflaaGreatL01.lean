/-
  The laws' own helpers on lists of processors: measured, copied out of the law's argument, compared.
-/
import Derived.Test.YtflekodaiejflaaGreatL00
import Derived.Maps.AppendAt
import Derived.Laws.AppendOwn
import Derived.Lib.SmallJoins
import Derived.DataShut
namespace Go.Proofs.YtflekodaiejflaaGreat
open Go.RowKit Go.Joins
set_option linter.unusedVariables false
set_option linter.unusedSimpArgs false

set_option maxRecDepth 100000 in
set_option maxHeartbeats 1000000 in
theorem szProcS_ok {v : Value} {m : Nat} {P : Pcs} {w : World} (h : RowPAt w v m P) (left : Int) (h1 : left ≤ 1048576) (hle : (m : Int) + (slotsP P m : Nat) ≤ left) :
    Calls Tryz.prog 16 #[v, .int .i64 left] w fun e w' => e = .returned (.int .i64 (left - m - (slotsP P m : Nat))) ∧ Below w.heap.size w w' := by
  obtain ⟨a, cap, rfl⟩ := h.form
  have H := Lib.hid h
  clear h
  have d0 : decide (left - (m : Int) < 0) = false := by simp; omega
  go_enter Tryz.func16, Tryz.ntmps16
  go_wp2
  go_loopw [1, 5] (fun q i wr => ∃ (k : Nat) (z : Int), k ≤ m ∧ i = .int .i64 k ∧ q = .int .i64 z ∧ z = left - m - (slotsP P k : Nat) ∧ Below w.heap.size w wr) (fun _ i _ => m - (intOf i).toNat)
  case atStart => exact ⟨0, left - m, Nat.zero_le _, rfl, rfl, by simp [slotsP], Below.refl _ _⟩
  case round =>
    obtain ⟨k, z, hk, rfl, rfl, hz, hbk⟩ := hrel
    by_cases hlt : k < m
    · rcases H.out with ⟨h0, _⟩ | ⟨b, off, cap', ev, hl, hc⟩
      · omega
      injection ev with ev1 ev2 ev3
      subst ev1 ev3
      have hs := slotsP_le P hlt
      have hs2 : slotsP P (k + 1) = slotsP P k + (P k).n := rfl
      obtain ⟨pa, pc, c0, c1, c2, c3, _⟩ := (hc k hlt).below hl hbk
      have i1 : (k : Int) < (m : Int) := by omega
      have i0 : (0 : Int) ≤ (k : Int) := by omega
      have hz0 : 0 ≤ z := by omega
      have hz1 : z ≤ 1048576 := by omega
      have hno : ¬ z < ((P k).n : Int) := by omega
      have hnm : (P k).n ≤ maxLen := by unfold maxLen; omega
      have SZ : ∀ W : World, Calls Tryz.prog 32 #[prV (.slice pa (P k).n pc) (P k).l (P k).e (P k).d, .int .i64 z] W fun x w' => x = .returned (.int .i64 (z - ((P k).n : Int))) ∧ Below W.heap.size W w' := fun W => by
        have := szProc_any (P k).l (P k).e (P k).d (v := .slice pa (P k).n pc) ⟨_, _, rfl⟩ z W hz0 hz1 hnm
        rwa [if_neg hno] at this
      have hk1 : z - ((P k).n : Int) = left - m - (slotsP P (k + 1) : Nat) := by omega
      obtain ⟨y, hy⟩ : ∃ y : Int, y = z - ((P k).n : Int) := ⟨_, rfl⟩
      rw [← hy] at hk1
      have hd : decide (y < 0) = false := by simp; omega
      have HS2 : ∀ W : World, Calls Tryz.prog 32 #[prV (.slice pa (P k).n pc) (P k).l (P k).e (P k).d, .int .i64 z] W fun x w' => x = .returned (.int .i64 y) ∧ Below W.heap.size W w' := fun W => by rw [hy]; exact SZ W
      have HS := Lib.hid HS2
      have HK := Lib.hid hk1
      clear SZ HS2 hy hno hnm hk1 hz
      go_wp2_with fail
      go_at_call 32; refine (HS.out _).mono ?_; rintro x w1 ⟨rfl, hb1⟩
      have hbn := btrans hbk hb1
      clear c0 c1 c2 c3 hb1 hs hs2 hc
      go_wp2
      exact ⟨⟨k + 1, y, by omega, by go_num, rfl, HK.out, hbn⟩, by simp only [intOf]; omega⟩
    · have hkm : k = m := by omega
      subst hkm
      have HZ := Lib.hid hz
      clear hz
      go_wp2
      go_ret
      exact ⟨ret_i64 HZ.out, hbk⟩

set_option maxRecDepth 100000 in
set_option maxHeartbeats 1000000 in
theorem szProcS_big {v : Value} {m : Nat} {P : Pcs} {w : World} (h : RowPAt w v m P) (hm : m ≤ maxLen) (hn : ∀ i, i < m → (P i).n ≤ maxLen) (left : Int) (h0 : 0 ≤ left) (h1 : left ≤ 1048576) (hle : left < (m : Int) + (slotsP P m : Nat)) :
    Calls Tryz.prog 16 #[v, .int .i64 left] w fun e w' => e = .returned (.int .i64 (-1)) ∧ Below w.heap.size w w' := by
  obtain ⟨a, cap, rfl⟩ := h.form
  have H := Lib.hid h
  clear h
  unfold maxLen at hm
  by_cases hb : left < (m : Int)
  · have d0 : decide (left - (m : Int) < 0) = true := by simp; omega
    go_enter Tryz.func16, Tryz.ntmps16
    go_wp2
    go_ret
    exact ⟨rfl, Below.refl _ _⟩
  have d0 : decide (left - (m : Int) < 0) = false := by simp; omega
  have HN := Lib.hid hn
  clear hn
  go_enter Tryz.func16, Tryz.ntmps16
  go_wp2
  go_loopw [1, 5] (fun q i wr => ∃ (k : Nat) (z : Int), k ≤ m ∧ i = .int .i64 k ∧ q = .int .i64 z ∧ z = left - m - (slotsP P k : Nat) ∧ 0 ≤ z ∧ Below w.heap.size w wr) (fun _ i _ => m - (intOf i).toNat)
  case atStart => exact ⟨0, left - m, Nat.zero_le _, rfl, rfl, by simp [slotsP], by omega, Below.refl _ _⟩
  case round =>
    obtain ⟨k, z, hk, rfl, rfl, hz, hz0, hbk⟩ := hrel
    by_cases hlt : k < m
    · rcases H.out with ⟨h0, _⟩ | ⟨b, off, cap', ev, hl, hc⟩
      · omega
      injection ev with ev1 ev2 ev3
      subst ev1 ev3
      have hs2 : slotsP P (k + 1) = slotsP P k + (P k).n := rfl
      obtain ⟨pa, pc, c0, c1, c2, c3, _⟩ := (hc k hlt).below hl hbk
      have i1 : (k : Int) < (m : Int) := by omega
      have i0 : (0 : Int) ≤ (k : Int) := by omega
      have hz1 : z ≤ 1048576 := by omega
      have hnm : (P k).n ≤ maxLen := HN.out k hlt
      by_cases hno : z < ((P k).n : Int)
      · have SZ : ∀ W : World, Calls Tryz.prog 32 #[prV (.slice pa (P k).n pc) (P k).l (P k).e (P k).d, .int .i64 z] W fun x w' => x = .returned (.int .i64 (-1)) ∧ Below W.heap.size W w' := fun W => by
          have := szProc_any (P k).l (P k).e (P k).d (v := .slice pa (P k).n pc) ⟨_, _, rfl⟩ z W hz0 hz1 hnm
          rwa [if_pos hno] at this
        have HS := Lib.hid SZ
        clear SZ hno hnm hz
        go_wp2_with fail
        go_at_call 32; refine (HS.out _).mono ?_; rintro x w1 ⟨rfl, hb1⟩
        have hbn := btrans hbk hb1
        clear c0 c1 c2 c3 hb1 hs2 hc
        go_wp2
        go_ret
        exact ⟨rfl, hbn⟩
      · have SZ : ∀ W : World, Calls Tryz.prog 32 #[prV (.slice pa (P k).n pc) (P k).l (P k).e (P k).d, .int .i64 z] W fun x w' => x = .returned (.int .i64 (z - ((P k).n : Int))) ∧ Below W.heap.size W w' := fun W => by
          have := szProc_any (P k).l (P k).e (P k).d (v := .slice pa (P k).n pc) ⟨_, _, rfl⟩ z W hz0 hz1 hnm
          rwa [if_neg hno] at this
        have HS := Lib.hid SZ
        have hk1 : z - ((P k).n : Int) = left - m - (slotsP P (k + 1) : Nat) := by omega
        have hk0 : 0 ≤ z - ((P k).n : Int) := by omega
        obtain ⟨y, hy⟩ : ∃ y : Int, y = z - ((P k).n : Int) := ⟨_, rfl⟩
        rw [← hy] at hk1 hk0
        have hd : decide (y < 0) = false := by simp; omega
        have HS2 : ∀ W : World, Calls Tryz.prog 32 #[prV (.slice pa (P k).n pc) (P k).l (P k).e (P k).d, .int .i64 z] W fun x w' => x = .returned (.int .i64 y) ∧ Below W.heap.size W w' := fun W => by rw [hy]; exact HS.out W
        have HS := Lib.hid HS2
        have HK := Lib.hid hk1
        clear SZ hno hnm HS2 hy hk1 hz
        go_wp2_with fail
        go_at_call 32; refine (HS.out _).mono ?_; rintro x w1 ⟨rfl, hb1⟩
        have hbn := btrans hbk hb1
        clear c0 c1 c2 c3 hb1 hs2 hc
        go_wp2
        exact ⟨⟨k + 1, y, by omega, by go_num, rfl, HK.out, hk0, hbn⟩, by simp only [intOf]; omega⟩
    · exfalso
      have hkm : k = m := by omega
      subst hkm
      omega

/-! ### copied -/
theorem proc_info : (Tryz.prog.info? 87).map (fun i => (i.zero, i.size, i.bytes)) = some (some (.agg #[.slice none 0 0, .int .i64 0, .int .i64 0, .int .i64 0]), 4, 48) := by kernel_rfl
theorem madeP_zero (n i : Nat) (hi : i < n) : (madeCells #[.slice none 0 0, .int .i64 0, .int .i64 0, .int .i64 0] (n * 4))[i * 4]? = some (.slice none 0 0) ∧ (madeCells #[.slice none 0 0, .int .i64 0, .int .i64 0, .int .i64 0] (n * 4))[i * 4 + 1]? = some (.int .i64 0) ∧ (madeCells #[.slice none 0 0, .int .i64 0, .int .i64 0, .int .i64 0] (n * 4))[i * 4 + 2]? = some (.int .i64 0) ∧ (madeCells #[.slice none 0 0, .int .i64 0, .int .i64 0, .int .i64 0] (n * 4))[i * 4 + 3]? = some (.int .i64 0) := by
  have m1 : (i * 4 + 1) % 4 = 1 := by omega
  have m2 : (i * 4 + 2) % 4 = 2 := by omega
  have m3 : (i * 4 + 3) % 4 = 3 := by omega
  refine ⟨?_, ?_, ?_, ?_⟩ <;> (rw [Array.getElem?_eq_getElem (by rw [size_madeCells]; omega)]; simp [madeCells, m1, m2, m3])
theorem list_made (w : World) (n : Nat) (hn : n ≤ maxLen) : ListAt (w.alloc (.cells (madeCells #[.slice none 0 0, .int .i64 0, .int .i64 0, .int .i64 0] (n * 4)) 87)) w.heap.size w.heap.size n n (fun _ => pc0) (fun _ => .slice none 0 0) :=
  ⟨Nat.le_refl _, Nat.le_refl _, hn, _, heap_alloc_new w _, size_madeCells _ _, fun i hi => madeP_zero n i hi⟩
theorem run_make_procs (n : Nat) (hn : n ≤ 1048576) : ∀ w : World, (Instr.makeSlice 34 (.int .i64 (n : Int)) (.int .i64 (n : Int))).run Tryz.prog w = .ok (.slice (some ⟨w.heap.size, 0, none⟩) n n) (w.alloc (.cells (madeCells #[.slice none 0 0, .int .i64 0, .int .i64 0, .int .i64 0] (n * 4)) 87)) := by
  intro w
  obtain ⟨i0, hi, hz, hs, hby⟩ := info_parts proc_info
  have hr := run_make (P := Tryz.prog) w 34 87 i0 _ Tryz.underlying34 hi hz .i64 .i64 (n : Int) (n : Int) (by omega) (by omega) (by rw [hby]; omega) (by omega)
  rw [hs] at hr
  simp only [Int.toNat_natCast] at hr
  exact hr
def upToP (P : Pcs) (k : Nat) : Pcs := fun i => if i < k then P i else pc0
theorem upToP_put {P : Pcs} {k n : Nat} : ∀ i, i < n → putP (upToP P k) k (P k) i = upToP P (k + 1) i := by
  intro i _
  unfold putP upToP
  by_cases e : i = k
  · subst e; simp
  · rw [if_neg e]
    by_cases h : i < k
    · rw [if_pos h, if_pos (by omega)]
    · rw [if_neg h, if_neg (by omega)]
/-- a call that makes a new list of processors -/
def NewPRow (m : Nat) (P : Pcs) (w : World) (e : Ending) (w' : World) : Prop := ∃ v, e = .returned v ∧ OwnPRow w' w.heap.size v m P ∧ Below w.heap.size w w'

set_option maxRecDepth 100000 in
set_option maxHeartbeats 2000000 in
theorem toProcS_any {v : Value} {m : Nat} {P : Pcs} {w : World} (hm : m ≤ 1048576) (hn : ∀ i, i < m → (P i).n ≤ 1048576) (h : RowPAt w v m P) :
    Calls Tryz.prog 21 #[v] w (NewPRow m P w) := by
  have hmk := run_make_procs m hm
  obtain ⟨a, cap, rfl⟩ := h.form
  have HO := Lib.hid ((list_made w m (by unfold maxLen; omega)).congr (Q := upToP P 0) (U := fun _ => .slice none 0 0) (fun i hi => by simp [upToP]) (fun _ _ => rfl))
  have HB := Lib.hid ((Below.refl w.heap.size w).alloc (Nat.le_refl _) (.cells (madeCells #[.slice none 0 0, .int .i64 0, .int .i64 0, .int .i64 0] (m * 4)) 87))
  have H := Lib.hid h
  have HN := Lib.hid hn
  clear h hn
  go_enter Tryz.func21, Tryz.ntmps21
  go_wp2
  go_loopw [4] (fun i wr => ∃ (k : Nat) (V : Nat → Value), k ≤ m ∧ i = .int .i64 k ∧ ListAt wr w.heap.size w.heap.size m m (upToP P k) V ∧ HeapsAt wr w.heap.size k P V ∧ Below w.heap.size w wr) (fun i _ => m - (intOf i).toNat)
  case atStart => exact ⟨0, _, Nat.zero_le _, rfl, HO.out, HeapsAt.zero _ _ _ _, HB.out⟩
  case round =>
    obtain ⟨k, V, hk, rfl, hLk, hHk, hbk⟩ := hrel
    by_cases hlt : k < m
    · rcases H.out with ⟨h0, _⟩ | ⟨b, off, cap', ev, hl, hc⟩
      · omega
      injection ev with ev1 ev2 ev3
      subst ev1 ev3
      have hpc := (hc k hlt).below hl hbk
      have hnk := HN.out k hlt
      obtain ⟨pa, pc, c0, c1, c2, c3, hrow⟩ := hpc
      have i1 : (k : Int) < (m : Int) := by omega
      have i0 : (0 : Int) ≤ (k : Int) := by omega
      go_wp2_with fail
      go_at_call 44; refine (toProc_any (P k).l (P k).e (P k).d hnk hrow).mono ?_; rintro x w1 ⟨u, rfl, hOu, hb1⟩
      have hL1 := hLk.below hb1
      have hH1 := hHk.push hb1 hbk.size (p := P k) hOu
      have hbk1 := btrans hbk hb1
      have fr := hL1.free
      have f0 := fr (k * 4); have f1 := fr (k * 4 + 1); have f2 := fr (k * 4 + 2); have f3 := fr (k * 4 + 3)
      obtain ⟨d0, d1, d2, d3⟩ := hL1.cells hlt
      obtain ⟨ua, uc, hu⟩ := hOu.value
      have hLn := (hL1.put hlt u (P k)).congr (upToP_put (P := P)) (fun _ _ => rfl)
      have hHn : HeapsAt (setP w1 w.heap.size k u (P k).l (P k).e (P k).d) w.heap.size (k + 1) P (putV V k u) :=
        (hH1.other (fun i hi x hx => heap_setP w1 w.heap.size k u _ _ _ (hL1.ne_heap (hH1.1 i hi) x hx))).congr (fun i hi => by unfold putP; split <;> simp_all) (fun _ _ => rfl)
      have kn := b_setP hbk1 (Nat.le_refl _) k u (P k).l (P k).e (P k).d
      subst hu
      clear hb1 fr c0 c1 c2 c3 hLk hHk hbk hL1 hH1 hbk1 hOu hrow hc
      go_wp2
      exact ⟨⟨k + 1, _, by omega, by go_num, hLn, hHn, kn⟩, by simp only [intOf]; omega⟩
    · have hkm : k = m := by omega
      subst hkm
      go_wp2
      go_ret
      exact ⟨_, rfl, .inr ⟨_, _, V, rfl, hLk.congr (fun i hi => by simp [upToP, hi]) (fun _ _ => rfl), hHk⟩, hbk⟩

/-! ### compared -/
set_option maxRecDepth 100000 in
set_option maxHeartbeats 2000000 in
theorem eqProcS_same {v1 v2 : Value} {m : Nat} {P : Pcs} {w : World} (hm : m ≤ 1048576) (hn : ∀ i, i < m → (P i).n ≤ 1048576) (h1 : RowPAt w v1 m P) (h2 : RowPAt w v2 m P) :
    Calls Tryz.prog 28 #[v1, v2] w fun e w' => e = .returned (.bool true) ∧ Below w.heap.size w w' := by
  obtain ⟨a1, k1, rfl⟩ := h1.form
  obtain ⟨a2, k2, rfl⟩ := h2.form
  have H1 := Lib.hid h1
  have H2 := Lib.hid h2
  have HN := Lib.hid hn
  clear h1 h2 hn
  go_enter Tryz.func28, Tryz.ntmps28
  go_wp2
  go_loopw [5] (fun i wr => ∃ k : Nat, k ≤ m ∧ i = .int .i64 k ∧ Below w.heap.size w wr) (fun i _ => m - (intOf i).toNat)
  case atStart => exact ⟨0, Nat.zero_le _, rfl, Below.refl _ _⟩
  case round =>
    obtain ⟨k, hk, rfl, hbk⟩ := hrel
    by_cases hlt : k < m
    · rcases H1.out with ⟨h0, _⟩ | ⟨b1, o1, cap1, ev, hl1, hc1⟩
      · omega
      injection ev with ev1 ev2 ev3
      subst ev1 ev3
      rcases H2.out with ⟨h0, _⟩ | ⟨b2, o2, cap2, ev, hl2, hc2⟩
      · omega
      injection ev with ev1 ev2 ev3
      subst ev1 ev3
      obtain ⟨pa, pc, c0, c1, c2, c3, r1⟩ := hc1 k hlt
      obtain ⟨qa, qc, e0, e1, e2, e3, r2⟩ := hc2 k hlt
      have far : ∀ wz : World, Below w.heap.size w wz → wz.cell? ⟨b1, o1 + k * 4, none⟩ = some (.slice pa (P k).n pc) ∧ wz.cell? ⟨b1, o1 + k * 4 + 1, none⟩ = some (.int .i64 (P k).l) ∧ wz.cell? ⟨b1, o1 + k * 4 + 2, none⟩ = some (.int .i64 (P k).e) ∧ wz.cell? ⟨b1, o1 + k * 4 + 3, none⟩ = some (.int .i64 (P k).d) ∧ wz.cell? ⟨b2, o2 + k * 4, none⟩ = some (.slice qa (P k).n qc) ∧ wz.cell? ⟨b2, o2 + k * 4 + 1, none⟩ = some (.int .i64 (P k).l) ∧ wz.cell? ⟨b2, o2 + k * 4 + 2, none⟩ = some (.int .i64 (P k).e) ∧ wz.cell? ⟨b2, o2 + k * 4 + 3, none⟩ = some (.int .i64 (P k).d) := fun wz hz =>
        ⟨(hz.cell (p := ⟨b1, o1 + k * 4, none⟩) hl1).trans c0, (hz.cell (p := ⟨b1, o1 + k * 4 + 1, none⟩) hl1).trans c1, (hz.cell (p := ⟨b1, o1 + k * 4 + 2, none⟩) hl1).trans c2, (hz.cell (p := ⟨b1, o1 + k * 4 + 3, none⟩) hl1).trans c3,
          (hz.cell (p := ⟨b2, o2 + k * 4, none⟩) hl2).trans e0, (hz.cell (p := ⟨b2, o2 + k * 4 + 1, none⟩) hl2).trans e1, (hz.cell (p := ⟨b2, o2 + k * 4 + 2, none⟩) hl2).trans e2, (hz.cell (p := ⟨b2, o2 + k * 4 + 3, none⟩) hl2).trans e3⟩
      have FAR := Lib.hid far
      have R1 := Lib.hid r1
      have R2 := Lib.hid r2
      have hnk := HN.out k hlt
      clear far c0 c1 c2 c3 e0 e1 e2 e3 r1 r2 hc1 hc2
      have i1 : (k : Int) < (m : Int) := by omega
      have i0 : (0 : Int) ≤ (k : Int) := by omega
      have kd := hbk.drew
      go_wp2
      go_region_held3 (fun w' => w'.cell? ⟨b1, o1 + k * 4, none⟩ = some (.slice pa (P k).n pc) ∧ w'.cell? ⟨b1, o1 + k * 4 + 1, none⟩ = some (.int .i64 (P k).l) ∧ w'.cell? ⟨b1, o1 + k * 4 + 2, none⟩ = some (.int .i64 (P k).e) ∧ w'.cell? ⟨b1, o1 + k * 4 + 3, none⟩ = some (.int .i64 (P k).d) ∧ w'.cell? ⟨b2, o2 + k * 4, none⟩ = some (.slice qa (P k).n qc) ∧ w'.cell? ⟨b2, o2 + k * 4 + 1, none⟩ = some (.int .i64 (P k).l) ∧ w'.cell? ⟨b2, o2 + k * 4 + 2, none⟩ = some (.int .i64 (P k).e) ∧ w'.cell? ⟨b2, o2 + k * 4 + 3, none⟩ = some (.int .i64 (P k).d))
        (first | exact FAR.out _ kd | go_keep)
        (first
          | (go_at_call 57; refine (eqProc_same (P k).l (P k).e (P k).d hnk (R1.out.below kd) (R2.out.below kd)).mono ?_; rintro e w1 ⟨rfl, hb1⟩
             replace kd := btrans kd hb1))
      go_wp2
      exact ⟨⟨k + 1, by omega, by go_num, kd⟩, by simp only [intOf]; omega⟩
    · go_wp2
      go_ret
      exact ⟨rfl, hbk⟩

end Go.Proofs.YtflekodaiejflaaGreat

/-
  The laws' own helpers on lists of processors, second part: marked, looked at again; what writes only between two bounds.
-/
namespace Go.Proofs.YtflekodaiejflaaGreat
open Go.RowKit Go.Joins
set_option linter.unusedVariables false
set_option linter.unusedSimpArgs false

/-! ### a call that writes only into the blocks from B on and before C, and into new ones -/
structure Mid (B C : Nat) (w w' : World) : Prop where
  os : w'.os = w.os
  tape : w'.tape = w.tape
  output : w'.output = w.output
  size : w.heap.size ≤ w'.heap.size
  block : ∀ k, k < w.heap.size → (k < B ∨ C ≤ k) → w'.heap[k]? = w.heap[k]?
theorem Mid.refl (B C : Nat) (w : World) : Mid B C w w := ⟨rfl, rfl, rfl, Nat.le_refl _, fun _ _ _ => rfl⟩
theorem Mid.trans {B C : Nat} {a b c : World} (h : Mid B C a b) (k : Mid B C b c) : Mid B C a c :=
  ⟨k.os.trans h.os, k.tape.trans h.tape, k.output.trans h.output, Nat.le_trans h.size k.size, fun i hi hx => (k.block i (Nat.lt_of_lt_of_le hi h.size) hx).trans (h.block i hi hx)⟩
theorem Mid.of_grown {B C : Nat} {w w' : World} {ob : Option Nat} (h : w.grownBy w' ob) (hx : ∀ x, ob = some x → B ≤ x ∧ x < C) : Mid B C w w' :=
  ⟨h.os, h.tape, h.output, h.size, fun k hk hn => h.block k hk (by intro e; have := hx k e.symm; omega)⟩
theorem Mid.of_below {B C : Nat} {w w' : World} (h : Below w.heap.size w w') : Mid B C w w' := ⟨h.os, h.tape, h.output, h.size, fun k hk _ => h.block k hk⟩
theorem Mid.set {B C : Nat} {a w : World} (h : Mid B C a w) {g : Nat} (h1 : B ≤ g) (h2 : g < C) (o : Nat) (u : Value) : Mid B C a (w.setCell ⟨g, o, none⟩ u) := by
  refine ⟨h.os, h.tape, h.output, ?_, fun k hk hx => (Below.heap_setCell w ⟨g, o, none⟩ u k (show k ≠ g by omega)).trans (h.block k hk hx)⟩
  have : (w.setCell ⟨g, o, none⟩ u).heap.size = w.heap.size := by simp
  rw [this]; exact h.size
theorem Mid.below {B C : Nat} {w w' : World} (h : Mid B C w w') (hB : B ≤ w.heap.size) : Below B w w' := ⟨h.os, h.tape, h.output, h.size, fun k hk => h.block k (by omega) (.inl hk)⟩
theorem Mid.wide {B C B' C' : Nat} {w w' : World} (h : Mid B C w w') (hB : B' ≤ B) (hC : C ≤ C') : Mid B' C' w w' := ⟨h.os, h.tape, h.output, h.size, fun k hk hx => h.block k hk (by omega)⟩

/-- a call that leaves the blocks of all types but these -/
def KeepsBut (T : List TypeId) (w w' : World) : Prop := ∀ (x : Nat) (cs : Array Value) (t : TypeId), w.heap[x]? = some (.cells cs t (0, 0)) → t ∉ T → w'.heap[x]? = w.heap[x]?
theorem KeepsBut.refl (T : List TypeId) (w : World) : KeepsBut T w w := fun _ _ _ _ _ => rfl
theorem KeepsBut.trans {T : List TypeId} {a b c : World} (h : KeepsBut T a b) (k : KeepsBut T b c) : KeepsBut T a c := fun x cs t hx ht => by
  have h1 := h x cs t hx ht
  exact (k x cs t (h1.trans hx) ht).trans h1
theorem KeepsBut.of_grown {T : List TypeId} {w w' : World} {ob : Option Nat} (h : w.grownBy w' ob) (hx : ∀ x, ob = some x → ∃ (cs : Array Value) (t : TypeId), w.heap[x]? = some (.cells cs t (0, 0)) ∧ t ∈ T) : KeepsBut T w w' := fun x cs t hc ht =>
  h.block x (lt_of_block hc) (fun e => by
    obtain ⟨cs', t', hc', ht'⟩ := hx x e.symm
    rw [hc] at hc'
    injection hc' with hc'
    injection hc' with _ h2 _
    exact ht (h2 ▸ ht'))
theorem KeepsBut.set {T : List TypeId} {a w : World} (h : KeepsBut T a w) {g : Nat} {cs : Array Value} {t : TypeId} (hg : w.heap[g]? = some (.cells cs t (0, 0))) (ht : t ∈ T) (o : Nat) (u : Value) : KeepsBut T a (w.setCell ⟨g, o, none⟩ u) := fun x cs' t' hc hn =>
  (Below.heap_setCell w ⟨g, o, none⟩ u x (show x ≠ g from fun e => by
    subst e
    have h1 := (h x cs' t' hc hn).trans hc
    rw [hg] at h1
    injection h1 with h1
    injection h1 with _ h2 _
    exact hn (h2 ▸ ht))).trans (h x cs' t' hc hn)
theorem KeepsBut.of_below {T : List TypeId} {w w' : World} (h : Below w.heap.size w w') : KeepsBut T w w' := fun x _ _ hc _ => h.block x (lt_of_block hc)
theorem OwnRow.typed {w : World} {B n : Nat} {v : Value} {f : Slots} (h : OwnRow w B v n f) : ∀ x, v.ownBlock = some x → ∃ (cs : Array Value) (t : TypeId), w.heap[x]? = some (.cells cs t (0, 0)) ∧ t ∈ [87, 133] := by
  intro x hx
  rcases h with ⟨_, rfl⟩ | ⟨g, cap, rfl, h⟩
  · simp [Value.ownBlock] at hx
  · simp [Value.ownBlock] at hx; subst hx
    obtain ⟨_, _, _, cur, hh, _⟩ := h
    exact ⟨cur, _, hh, by decide⟩
theorem ListAt.typed {w : World} {B g m cap : Nat} {P : Pcs} {V : Nat → Value} (h : ListAt w B g m cap P V) : ∃ cs : Array Value, w.heap[g]? = some (.cells cs 87 (0, 0)) := by
  obtain ⟨_, _, _, cur, hh, _⟩ := h
  exact ⟨cur, hh⟩

/-! ### marked -/
def markPc (p : Pc) (q : Int) : Pc := ⟨p.n, markF p.f q p.n, q + 2 * (p.n : Int), q + 2 * (p.n : Int) + 1, q + 2 * (p.n : Int) + 1 + 1⟩
def markAt (P : Pcs) (q : Int) (i : Nat) : Int := q + 2 * (slotsP P i : Nat) + 3 * (i : Int)
def markP (P : Pcs) (q : Int) (k : Nat) : Pcs := fun i => if i < k then markPc (P i) (markAt P q i) else P i
theorem markP_zero (P : Pcs) (q : Int) : markP P q 0 = P := by funext i; simp [markP]
theorem markP_at (P : Pcs) (q : Int) {m k : Nat} (h : k < m) : markP P q m k = markPc (P k) (markAt P q k) := by simp [markP, h]
theorem markP_put {P : Pcs} {q : Int} {k : Nat} (n : Nat) : ∀ i, i < n → putP (markP P q k) k (markPc (P k) (markAt P q k)) i = markP P q (k + 1) i := by
  intro i _
  unfold putP markP
  by_cases e : i = k
  · subst e; simp
  · rw [if_neg e]
    by_cases h : i < k
    · rw [if_pos h, if_pos (by omega)]
    · rw [if_neg h, if_neg (by omega)]
theorem markP_next (P : Pcs) (q : Int) (k : Nat) : markAt P q (k + 1) = markAt P q k + 2 * ((P k).n : Int) + 1 + 1 + 1 := by
  unfold markAt; rw [slotsP]; omega

abbrev setLed (w : World) (g k : Nat) (l e d : Int) : World := ((w.setCell ⟨g, k * 4 + 1, none⟩ (.int .i64 l)).setCell ⟨g, k * 4 + 2, none⟩ (.int .i64 e)).setCell ⟨g, k * 4 + 3, none⟩ (.int .i64 d)
theorem put3 {cur : Array Value} {m cap k : Nat} {P : Pcs} {V : Nat → Value} (hs : cur.size = cap * 4) (hk : k < cap) (hr : PcIn cur m P V) (p : Pc) :
    PcIn (((cur.setIfInBounds (k * 4 + 1) (.int .i64 p.l)).setIfInBounds (k * 4 + 2) (.int .i64 p.e)).setIfInBounds (k * 4 + 3) (.int .i64 p.d)) m (putP P k p) V := by
  intro i hi
  obtain ⟨h0, h1, h2, h3⟩ := hr i hi
  by_cases e : i = k
  · subst e
    rw [putP_same]
    refine ⟨?_, ?_, ?_, ?_⟩
    · rw [Array.getElem?_setIfInBounds_ne (by omega), Array.getElem?_setIfInBounds_ne (by omega), Array.getElem?_setIfInBounds_ne (by omega)]; exact h0
    · simp only [Array.getElem?_setIfInBounds, Array.size_setIfInBounds]; simp; try omega
    · simp only [Array.getElem?_setIfInBounds, Array.size_setIfInBounds]; simp; try omega
    · simp only [Array.getElem?_setIfInBounds, Array.size_setIfInBounds]; simp; try omega
  · rw [putP_other P p e]
    refine ⟨?_, ?_, ?_, ?_⟩
    · rw [Array.getElem?_setIfInBounds_ne (by omega), Array.getElem?_setIfInBounds_ne (by omega), Array.getElem?_setIfInBounds_ne (by omega)]; exact h0
    · rw [Array.getElem?_setIfInBounds_ne (by omega), Array.getElem?_setIfInBounds_ne (by omega), Array.getElem?_setIfInBounds_ne (by omega)]; exact h1
    · rw [Array.getElem?_setIfInBounds_ne (by omega), Array.getElem?_setIfInBounds_ne (by omega), Array.getElem?_setIfInBounds_ne (by omega)]; exact h2
    · rw [Array.getElem?_setIfInBounds_ne (by omega), Array.getElem?_setIfInBounds_ne (by omega), Array.getElem?_setIfInBounds_ne (by omega)]; exact h3
theorem ListAt.putLed {w : World} {B g m cap : Nat} {P : Pcs} {V : Nat → Value} (h : ListAt w B g m cap P V) {k : Nat} (hk : k < m) (p : Pc) : ListAt (setLed w g k p.l p.e p.d) B g m cap (putP P k p) V := by
  obtain ⟨h1, h2, h3, cur, hh, hs, hr⟩ := h
  refine ⟨h1, h2, h3, _, block_setCell (block_setCell (block_setCell hh (i := k * 4 + 1) _) (i := k * 4 + 2) _) (i := k * 4 + 3) _, by simp [hs], put3 hs (by omega) hr p⟩
theorem heap_setLed (w : World) (g k : Nat) (l e d : Int) {x : Nat} (hx : x ≠ g) : (setLed w g k l e d).heap[x]? = w.heap[x]? :=
  (Below.heap_setCell _ ⟨g, k * 4 + 3, none⟩ _ x hx).trans ((Below.heap_setCell _ ⟨g, k * 4 + 2, none⟩ _ x hx).trans (Below.heap_setCell _ ⟨g, k * 4 + 1, none⟩ _ x hx))
/-- the k-th one's slots are written -/
theorem HeapsAt.mark {w w' : World} {B m k : Nat} {P : Pcs} {V : Nat → Value} {p : Pc} (h : HeapsAt w B m P V) (hk : k < m) (ho : OwnRow w' B (V k) p.n p.f) (hg : w.grownBy w' (V k).ownBlock) : HeapsAt w' B m (putP P k p) V := by
  refine ⟨fun i hi => ?_, h.2⟩
  by_cases e : i = k
  · subst e; rw [putP_same]; exact ho
  · rw [putP_other P p e]
    have h1 := h.1 i hi
    have ap := h.2 i k hi hk e
    have lt := h1.lt_size
    rcases h1 with h1 | ⟨x, cap, ev, h1⟩
    · exact .inl h1
    · have eo : (V i).ownBlock = some x := by rw [ev]; rfl
      exact .inr ⟨x, cap, ev, h1.block (hg.block x (lt x eo) (fun e2 => ap x eo e2.symm))⟩
theorem ListAt.grown {w w' : World} {B g m cap : Nat} {P : Pcs} {V : Nat → Value} {ob : Option Nat} (h : ListAt w B g m cap P V) (hg : w.grownBy w' ob) (hn : ∀ x, ob = some x → x ≠ g) : ListAt w' B g m cap P V :=
  h.block (hg.block g h.lt (fun e => hn g e.symm rfl))

set_option maxRecDepth 100000 in
set_option maxHeartbeats 2000000 in
/-- a list of processors of the law's own, marked -/
theorem markProcS_any {B C g m cap : Nat} {P : Pcs} {V : Nat → Value} {w : World} (q : Int) (hq0 : 0 ≤ q) (hq1 : q + 2 * (slotsP P m : Nat) + 3 * (m : Int) ≤ 16777216) (hn : ∀ i, i < m → (P i).n ≤ 1048576) (hm : m ≤ 1048576)
    (hL : ListAt w B g m cap P V) (hH : HeapsAt w B m P V) (hgC : g < C) (hVC : ∀ i, i < m → ∀ x, (V i).ownBlock = some x → x < C) :
    Calls Tryz.prog 30 #[.slice (some ⟨g, 0, none⟩) m cap, .int .i64 q] w fun x w' => x = .returned (.int .i64 (markAt P q m)) ∧ ListAt w' B g m cap (markP P q m) V ∧ HeapsAt w' B m (markP P q m) V ∧ Mid B C w w' ∧ KeepsBut [87, 133] w w' := by
  have hBg := hL.1
  have HL := Lib.hid hL
  have HH := Lib.hid hH
  have HN := Lib.hid hn
  have HC := Lib.hid hVC
  clear hL hH hn hVC
  go_enter Tryz.func30, Tryz.ntmps30
  go_wp2
  go_loopw [1, 5] (fun y i wr => ∃ k : Nat, k ≤ m ∧ i = .int .i64 k ∧ y = .int .i64 (markAt P q k) ∧ ListAt wr B g m cap (markP P q k) V ∧ HeapsAt wr B m (markP P q k) V ∧ Mid B C w wr ∧ KeepsBut [87, 133] w wr) (fun _ i _ => m - (intOf i).toNat)
  case atStart => exact ⟨0, Nat.zero_le _, rfl, congrArg (Value.int .i64) (by simp [markAt, slotsP]), by rw [markP_zero]; exact HL.out, by rw [markP_zero]; exact HH.out, Mid.refl _ _ _, KeepsBut.refl _ _⟩
  case round =>
    obtain ⟨k, hk, rfl, rfl, hLk, hHk, hMk, hKk⟩ := hrel
    by_cases hlt : k < m
    · have hnk := HN.out k hlt
      have hsl := slotsP_le P hlt
      have ha0 : 0 ≤ markAt P q k := by unfold markAt; omega
      have ha1 : markAt P q k + 2 * ((P k).n : Int) ≤ 16777216 := by unfold markAt; omega
      have hne := markP_next P q k
      have hOk := hHk.1 k hlt
      have hPk : markP P q k k = P k := by simp [markP]
      rw [hPk] at hOk
      obtain ⟨va, vc, hv⟩ := hOk.value
      have hCk := HC.out k hlt
      have hneH := hLk.ne_heap hOk
      obtain ⟨c0, _, _, _⟩ := hLk.cells hlt
      have hBO : ∀ x, (V k).ownBlock = some x → B ≤ x ∧ x < C := fun x hx => ⟨by
        rcases hOk with ⟨_, e⟩ | ⟨x', cap', e, ho⟩
        · rw [e] at hx; simp [Value.ownBlock] at hx
        · rw [e] at hx; simp [Value.ownBlock] at hx; subst hx; exact ho.1, hCk x hx⟩
      have MK := fun W : World => markRow_any (w := W) (v := V k) (n := (P k).n) (f := (P k).f) (B := B) (markAt P q k) ha0 (by omega) hnk
      have HMK := Lib.hid MK
      have HNE := Lib.hid hne
      have i1 : (k : Int) < (m : Int) := by omega
      have i0 : (0 : Int) ≤ (k : Int) := by omega
      obtain ⟨y, hy⟩ : ∃ y : Int, y = markAt P q k := ⟨_, rfl⟩
      have HPk := Lib.hid hPk
      rw [hv] at c0
      rw [← hy] at ha0 ha1 ⊢
      have HY := Lib.hid hy
      have HV := Lib.hid hv
      clear hsl hne MK hy hPk hv
      go_wp2_with fail
      go_at_call 58; refine ((show Calls Tryz.prog 58 #[.slice va (P k).n vc, .int .i64 y] wr _ by rw [← HV.out, HY.out]; exact HMK.out wr hOk)).mono ?_; rintro x w1 ⟨rfl, hO1, hg1⟩
      rw [← HY.out]
      have hL1 := hLk.grown hg1 hneH
      have hH1 := hHk.mark (p := markPc (P k) (markAt P q k)) hlt hO1 hg1
      have hM1 := hMk.trans (Mid.of_grown hg1 hBO)
      have hK1 := hKk.trans (KeepsBut.of_grown hg1 hOk.typed)
      have fr := hL1.free
      have f1 := fr (k * 4 + 1); have f2 := fr (k * 4 + 2); have f3 := fr (k * 4 + 3)
      obtain ⟨_, d1, d2, d3⟩ := hL1.cells hlt
      have hLn := (hL1.putLed hlt (markPc (P k) (markAt P q k))).congr (markP_put (P := P) (q := q) m) (fun _ _ => rfl)
      have hHn : HeapsAt (setLed w1 g k (markPc (P k) (markAt P q k)).l (markPc (P k) (markAt P q k)).e (markPc (P k) (markAt P q k)).d) B m (markP P q (k + 1)) V :=
        (hH1.other (fun i hi x hx => heap_setLed w1 g k _ _ _ (hL1.ne_heap (hH1.1 i hi) x hx))).congr (markP_put (P := P) (q := q) m) (fun _ _ => rfl)
      have hMn : Mid B C w (setLed w1 g k (markPc (P k) (markAt P q k)).l (markPc (P k) (markAt P q k)).e (markPc (P k) (markAt P q k)).d) := ((hM1.set hBg hgC _ _).set hBg hgC _ _).set hBg hgC _ _
      have hKn : KeepsBut [87, 133] w (setLed w1 g k (markPc (P k) (markAt P q k)).l (markPc (P k) (markAt P q k)).e (markPc (P k) (markAt P q k)).d) := by
        obtain ⟨cs, hcs⟩ := hL1.typed
        have s1 := hK1.set hcs (by decide) (k * 4 + 1) (.int .i64 (markPc (P k) (markAt P q k)).l)
        have s2 := s1.set (block_setCell (i := k * 4 + 1) hcs (.int .i64 (markPc (P k) (markAt P q k)).l)) (by decide) (k * 4 + 2) (.int .i64 (markPc (P k) (markAt P q k)).e)
        exact s2.set (block_setCell (i := k * 4 + 2) (block_setCell (i := k * 4 + 1) hcs (.int .i64 (markPc (P k) (markAt P q k)).l)) (.int .i64 (markPc (P k) (markAt P q k)).e)) (by decide) (k * 4 + 3) _
      unfold markPc at hLn hHn hMn hKn
      rw [← HY.out] at hLn hHn hMn hKn
      clear fr c0 hLk hHk hMk hL1 hH1 hM1 hO1 hg1 hOk hneH hBO hK1 hKk
      go_wp2
      exact ⟨⟨k + 1, by omega, by go_num, congrArg (Value.int .i64) (by rw [HNE.out, ← HY.out]), hLn, hHn, hMn, hKn⟩, by simp only [intOf]; omega⟩
    · have hkm : k = m := by omega
      subst hkm
      go_wp2
      go_ret
      exact ⟨rfl, hLk, hHk, hMk, hKk⟩

set_option maxHeartbeats 400000 in
theorem markProcS_nil (q : Int) (w : World) :
    Calls Tryz.prog 30 #[.slice none 0 0, .int .i64 q] w fun e w' => e = .returned (.int .i64 q) ∧ w = w' := by
  go_enter Tryz.func30, Tryz.ntmps30
  go_wp2
  go_loop [1, 5] (fun y i => i = .int .i64 0 ∧ y = .int .i64 q) (fun _ _ => 0)
  case atStart => exact ⟨rfl, rfl⟩
  case round =>
    obtain ⟨rfl, rfl⟩ := hrel
    go_wp2
    go_ret
    exact ⟨rfl, rfl⟩

set_option maxRecDepth 100000 in
set_option maxHeartbeats 2000000 in
/-- looked at again -/
theorem heldProcS_any {v : Value} {m : Nat} {P : Pcs} {w : World} (q : Int) (hq0 : 0 ≤ q) (hq1 : q + 2 * (slotsP P m : Nat) + 3 * (m : Int) ≤ 16777216) (hn : ∀ i, i < m → (P i).n ≤ 1048576) (hm : m ≤ 1048576) (h : RowPAt w v m (markP P q m)) :
    Calls Tryz.prog 60 #[v, .int .i64 q] w fun e w' => e = .returned (.int .i64 (markAt P q m)) ∧ w = w' := by
  obtain ⟨a, cap, rfl⟩ := h.form
  have H := Lib.hid h
  have HN := Lib.hid hn
  clear h hn
  go_enter Tryz.func60, Tryz.ntmps60
  go_wp2
  go_loop [1, 5] (fun y i => ∃ k : Nat, k ≤ m ∧ i = .int .i64 k ∧ y = .int .i64 (markAt P q k)) (fun _ i => m - (intOf i).toNat)
  case atStart => exact ⟨0, Nat.zero_le _, rfl, congrArg (Value.int .i64) (by simp [markAt, slotsP])⟩
  case round =>
    obtain ⟨k, hk, rfl, rfl⟩ := hrel
    by_cases hlt : k < m
    · rcases H.out with ⟨h0, _⟩ | ⟨b, off, cap', ev, hl, hc⟩
      · omega
      injection ev with ev1 ev2 ev3
      subst ev1 ev3
      have hnk := HN.out k hlt
      have hsl := slotsP_le P hlt
      have ha0 : 0 ≤ markAt P q k := by unfold markAt; omega
      have ha1 : markAt P q k + 2 * ((P k).n : Int) + 3 ≤ 16777216 := by unfold markAt; omega
      have hne := markP_next P q k
      obtain ⟨pa, pc, c0, c1, c2, c3, hr⟩ := hc k hlt
      rw [markP_at P q hlt] at c0 c1 c2 c3 hr
      unfold markPc at c0 c1 c2 c3 hr
      have i1 : (k : Int) < (m : Int) := by omega
      have i0 : (0 : Int) ≤ (k : Int) := by omega
      have HLD := Lib.hid (heldSlotS_any (markAt P q k) ha0 (by omega) hnk hr)
      have HNE := Lib.hid hne
      clear hr hne hsl hc
      generalize markAt P q k = y at *
      generalize (P k).n = nk at *
      generalize (P k).f = fk at *
      go_wp2_with fail
      go_at_call 85; refine HLD.out.mono ?_; rintro x w1 ⟨rfl, rfl⟩
      go_wp2
      exact ⟨⟨k + 1, by omega, by go_num, congrArg (Value.int .i64) HNE.out.symm⟩, by simp only [intOf]; omega⟩
    · have hkm : k = m := by omega
      subst hkm
      go_wp2
      go_ret
      exact ⟨rfl, rfl⟩

end Go.Proofs.YtflekodaiejflaaGreat

/-
  Is there such a processor (spec, chapter 1)?
-/
namespace Go.Proofs.YtflekodaiejflaaGreat
open Go.RowKit
set_option linter.unusedVariables false
set_option linter.unusedSimpArgs false

def procB (a b c w : Int) : Bool := planB a b c && inB w 0 (a - 1)

theorem procB_no {a b c w : Int} (h : planB a b c = false) : procB a b c w = false := by simp [procB, h]

theorem procB_out {a b c w : Int} (h : inB w 0 (a - 1) = false) : procB a b c w = false := by simp [procB, h]

theorem procB_yes {a b c w : Int} (h : planB a b c = true) (h1 : inB w 0 (a - 1) = true) : procB a b c w = true := by simp [procB, h, h1]

theorem procB_iff {a b c w : Int} : procB a b c w = true ↔ planB a b c = true ∧ 0 ≤ w ∧ w ≤ a - 1 := by simp [procB, inB_iff]

set_option maxHeartbeats 400000 in
theorem l1Proc_any (a b c n : Int) (w : World) :
    Calls Tryz.prog 111 #[.agg #[.int .i64 a, .int .i64 b, .int .i64 c], .int .i64 n] w fun e w' => e = .returned (.bool (procB a b c n)) ∧ Below w.heap.size w w' := by
  cases h1 : planB a b c
  · rw [procB_no h1]
    go_enter Tryz.func111, Tryz.ntmps111
    go_wp2_with (go_at_call 86; refine (spPlanOk_any _ _ _ _).mono ?_; rintro e w1 ⟨rfl, hb⟩)
    go_ret
    exact ⟨rfl, ((Below.refl _ _).alloc (Nat.le_refl _) _).trans (hb.mono (by simp))⟩
  · obtain ⟨⟨b2, b3⟩, b1, b4⟩ := planB_iff.1 h1
    cases h2 : inB n 0 (a - 1)
    · rw [procB_out h2]
      go_enter Tryz.func111, Tryz.ntmps111
      go_wp2_with (first
        | (go_at_call 86; refine (spPlanOk_any _ _ _ _).mono ?_; rintro e w1 ⟨rfl, hb⟩; obtain ⟨hc, hf⟩ := bcell hb)
        | (go_at_call 34; refine (l1In_any _ _ _ _).mono ?_; rintro e w' ⟨rfl, rfl⟩))
      go_ret
      exact ⟨rfl, ((Below.refl _ _).alloc (Nat.le_refl _) _).trans (hb.mono (by simp))⟩
    · rw [procB_yes h1 h2]
      go_enter Tryz.func111, Tryz.ntmps111
      go_wp2_with (first
        | (go_at_call 86; refine (spPlanOk_any _ _ _ _).mono ?_; rintro e w1 ⟨rfl, hb⟩; obtain ⟨hc, hf⟩ := bcell hb)
        | (go_at_call 34; refine (l1In_any _ _ _ _).mono ?_; rintro e w' ⟨rfl, rfl⟩))
      go_ret
      exact ⟨rfl, ((Below.refl _ _).alloc (Nat.le_refl _) _).trans (hb.mono (by simp))⟩

end Go.Proofs.YtflekodaiejflaaGreat

/-
  A flag that is answered is the one told.
-/
namespace Go.Proofs.YtflekodaiejflaaGreat
open Go.RowKit Go.Joins
set_option linter.unusedVariables false
set_option linter.unusedSimpArgs false

theorem ret_bool' {a b : Bool} (h : a = b) : Ending.returned (.bool a) = .returned (.bool b) := by rw [h]

end Go.Proofs.YtflekodaiejflaaGreat

/-
  Timers (spec, chapter 3): what the model answers.
-/
namespace Go.Proofs.YtflekodaiejflaaGreat
open Go.RowKit
set_option linter.unusedVariables false
set_option linter.unusedSimpArgs false

/-- a timer's eight numbers -/
structure Tm where
  st : Int
  wh : Int
  nx : Int
  pe : Int
  pl : Int
  ge : Int
  ki : Int
  ma : Int
abbrev tmCells (t : Tm) : Array Value := #[.int .i64 t.st, .int .i64 t.wh, .int .i64 t.nx, .int .i64 t.pe, .int .i64 t.pl, .int .i64 t.ge, .int .i64 t.ki, .int .i64 t.ma]
abbrev tmV (t : Tm) : Value := .agg #[.int .i64 t.st, .int .i64 t.wh, .int .i64 t.nx, .int .i64 t.pe, .int .i64 t.pl, .int .i64 t.ge, .int .i64 t.ki, .int .i64 t.ma]

/-- does it stand in a heap? -/
def inHeapB (s : Int) : Bool := s == 1 || (s == 3 || (s == 4 || (s == 5 || s == 6)))

set_option maxHeartbeats 400000 in
theorem spInHeap_any (s : Int) (w : World) :
    Calls Tryz.prog 110 #[.int .i64 s] w fun e w' => e = .returned (.bool (inHeapB s)) ∧ w = w' := by
  by_cases h1 : s = 1
  · subst h1
    go_enter Tryz.func110, Tryz.ntmps110
    go_wp2
    go_ret
    exact ⟨rfl, rfl⟩
  by_cases h3 : s = 3
  · subst h3
    go_enter Tryz.func110, Tryz.ntmps110
    go_wp2
    go_ret
    exact ⟨rfl, rfl⟩
  by_cases h4 : s = 4
  · subst h4
    go_enter Tryz.func110, Tryz.ntmps110
    go_wp2
    go_ret
    exact ⟨rfl, rfl⟩
  by_cases h5 : s = 5
  · subst h5
    go_enter Tryz.func110, Tryz.ntmps110
    go_wp2
    go_ret
    exact ⟨rfl, rfl⟩
  by_cases h6 : s = 6
  · subst h6
    go_enter Tryz.func110, Tryz.ntmps110
    go_wp2
    go_ret
    exact ⟨rfl, rfl⟩
  have e : inHeapB s = false := by simp [inHeapB, h1, h3, h4, h5, h6]
  rw [e]
  have b1 : (s == 1) = false := by simpa using h1
  have b3 : (s == 3) = false := by simpa using h3
  have b4 : (s == 4) = false := by simpa using h4
  have b5 : (s == 5) = false := by simpa using h5
  have b6 : (s == 6) = false := by simpa using h6
  go_enter Tryz.func110, Tryz.ntmps110
  go_wp2
  go_ret
  exact ⟨rfl, rfl⟩

/-- may a become b? -/
def passB (a b : Int) : Bool :=
  if a = 0 then b == 2 else if a = 7 then b == 2 else if a = 1 then b == 2 || b == 6 else
  if a = 2 then b == 1 || (b == 3 || (b == 4 || b == 5)) else if a = 3 then b == 2 || b == 1 else if a = 4 then b == 2 || b == 1 else
  if a = 5 then b == 2 || b == 7 else if a = 6 then b == 1 || b == 0 else false

end Go.Proofs.YtflekodaiejflaaGreat

/-
  Lists of timers in memory: one that is read, and one that the call itself made.
-/
namespace Go.Proofs.YtflekodaiejflaaGreat
open Go.RowKit Go.Joins
set_option linter.unusedVariables false
set_option linter.unusedSimpArgs false

abbrev Tms := Nat → Tm
/-- a timer's numbers, by their places -/
def tmAt (t : Tm) : Nat → Int
  | 0 => t.st
  | 1 => t.wh
  | 2 => t.nx
  | 3 => t.pe
  | 4 => t.pl
  | 5 => t.ge
  | 6 => t.ki
  | 7 => t.ma
  | _ => 0
def putT (f : Tms) (i : Nat) (t : Tm) : Tms := fun k => if k = i then t else f k
theorem putT_same (f : Tms) (i : Nat) (t : Tm) : putT f i t i = t := by simp [putT]
theorem putT_other (f : Tms) {i k : Nat} (t : Tm) (h : k ≠ i) : putT f i t k = f k := by simp [putT, h]
theorem below8 {P : Nat → Prop} (h0 : P 0) (h1 : P 1) (h2 : P 2) (h3 : P 3) (h4 : P 4) (h5 : P 5) (h6 : P 6) (h7 : P 7) : ∀ j, j < 8 → P j
  | 0, _ => h0
  | 1, _ => h1
  | 2, _ => h2
  | 3, _ => h3
  | 4, _ => h4
  | 5, _ => h5
  | 6, _ => h6
  | 7, _ => h7
  | _ + 8, h => by omega

/-! ### a list that is read -/
def RowTAt (w : World) (v : Value) (n : Nat) (f : Tms) : Prop :=
  (n = 0 ∧ ∃ a cap, v = .slice a 0 cap) ∨ ∃ b off cap, v = .slice (some ⟨b, off, none⟩) n cap ∧ b < w.heap.size ∧
    ∀ i, i < n → ∀ j, j < 8 → w.cell? ⟨b, off + i * 8 + j, none⟩ = some (.int .i64 (tmAt (f i) j))
theorem RowTAt.form {w : World} {v : Value} {n : Nat} {f : Tms} (h : RowTAt w v n f) : ∃ a cap, v = .slice a n cap := by
  rcases h with ⟨rfl, a, cap, rfl⟩ | ⟨b, off, cap, rfl, _⟩
  · exact ⟨_, _, rfl⟩
  · exact ⟨_, _, rfl⟩
theorem RowTAt.below {w w' : World} {v : Value} {n : Nat} {f : Tms} (h : RowTAt w v n f) (hb : Below w.heap.size w w') : RowTAt w' v n f := by
  rcases h with h | ⟨b, off, cap, rfl, hl, hc⟩
  · exact .inl h
  · exact .inr ⟨b, off, cap, rfl, Nat.lt_of_lt_of_le hl hb.size, fun i hi j hj => (hb.cell (p := ⟨b, off + i * 8 + j, none⟩) hl).trans (hc i hi j hj)⟩
theorem RowTAt.congr {w : World} {v : Value} {n : Nat} {f g : Tms} (h : RowTAt w v n f) (e : ∀ i, i < n → f i = g i) : RowTAt w v n g := by
  rcases h with h | ⟨b, off, cap, rfl, hl, hc⟩
  · exact .inl h
  · exact .inr ⟨b, off, cap, rfl, hl, fun i hi => by rw [← e i hi]; exact hc i hi⟩
theorem RowTAt.drew {w : World} {v : Value} {n : Nat} {f : Tms} (h : RowTAt w v n f) : RowTAt w.drew v n f := h
theorem RowTAt.drewN {w : World} {v : Value} {n : Nat} {f : Tms} (h : RowTAt w v n f) (k : Nat) : RowTAt (w.drewN k) v n f := h

/-! ### a list that the call made -/
def RowTIn (cur : Array Value) (n : Nat) (f : Tms) : Prop := ∀ i, i < n → ∀ j, j < 8 → cur[i * 8 + j]? = some (.int .i64 (tmAt (f i) j))
def OwnTAt (w : World) (B g n cap : Nat) (f : Tms) : Prop :=
  B ≤ g ∧ n ≤ cap ∧ cap ≤ maxLen ∧ ∃ cur, w.heap[g]? = some (.cells cur 90 (0, 0)) ∧ cur.size = cap * 8 ∧ RowTIn cur n f
def OwnTRow (w : World) (B : Nat) (v : Value) (n : Nat) (f : Tms) : Prop :=
  (n = 0 ∧ v = .slice none 0 0) ∨ ∃ g cap, v = .slice (some ⟨g, 0, none⟩) n cap ∧ OwnTAt w B g n cap f
theorem OwnTAt.lt {w : World} {B g n cap : Nat} {f : Tms} (h : OwnTAt w B g n cap f) : g < w.heap.size := by
  obtain ⟨_, _, _, cur, hh, _⟩ := h
  exact lt_of_block hh
theorem OwnTAt.cells {w : World} {B g n cap : Nat} {f : Tms} (h : OwnTAt w B g n cap f) {i : Nat} (hi : i < n) :
    ∀ j, j < 8 → w.cell? ⟨g, i * 8 + j, none⟩ = some (.int .i64 (tmAt (f i) j)) := by
  obtain ⟨_, _, _, cur, hh, _, hr⟩ := h
  exact fun j hj => (cell_of_block hh _).trans (hr i hi j hj)
theorem OwnTAt.free {w : World} {B g n cap : Nat} {f : Tms} (h : OwnTAt w B g n cap f) (o : Nat) : w.frozen? ⟨g, o, none⟩ = false := by
  obtain ⟨_, _, _, cur, hh, _⟩ := h
  exact unfrozen_of_block hh o
theorem OwnTAt.row {w : World} {B g n cap : Nat} {f : Tms} (h : OwnTAt w B g n cap f) : RowTAt w (.slice (some ⟨g, 0, none⟩) n cap) n f :=
  .inr ⟨g, 0, cap, rfl, h.lt, fun i hi j hj => by simpa using h.cells hi j hj⟩
theorem OwnTRow.row {w : World} {B n : Nat} {v : Value} {f : Tms} (h : OwnTRow w B v n f) : RowTAt w v n f := by
  rcases h with ⟨rfl, rfl⟩ | ⟨g, cap, rfl, h⟩
  · exact .inl ⟨rfl, _, _, rfl⟩
  · exact h.row
theorem OwnTAt.own {w : World} {B g n cap : Nat} {f : Tms} (h : OwnTAt w B g n cap f) : OwnTRow w B (.slice (some ⟨g, 0, none⟩) n cap) n f := .inr ⟨g, cap, rfl, h⟩
theorem OwnTAt.block {w w' : World} {B g n cap : Nat} {f : Tms} (h : OwnTAt w B g n cap f) (e : w'.heap[g]? = w.heap[g]?) : OwnTAt w' B g n cap f := by
  obtain ⟨h1, h2, h3, cur, hh, r⟩ := h
  exact ⟨h1, h2, h3, cur, e.trans hh, r⟩
theorem OwnTAt.below {w w' : World} {B g n cap : Nat} {f : Tms} (h : OwnTAt w B g n cap f) (hb : Below w.heap.size w w') : OwnTAt w' B g n cap f := h.block (hb.block g h.lt)
theorem OwnTAt.alloc {w : World} {B g n cap : Nat} {f : Tms} (h : OwnTAt w B g n cap f) (o : Obj) : OwnTAt (w.alloc o) B g n cap f := h.block (Below.heap_alloc w o g h.lt)
theorem OwnTAt.drewN {w : World} {B g n cap : Nat} {f : Tms} (h : OwnTAt w B g n cap f) (k : Nat) : OwnTAt (w.drewN k) B g n cap f := h
theorem OwnTAt.drew {w : World} {B g n cap : Nat} {f : Tms} (h : OwnTAt w B g n cap f) : OwnTAt w.drew B g n cap f := h
theorem OwnTAt.mono {w : World} {B B' g n cap : Nat} {f : Tms} (h : OwnTAt w B g n cap f) (hB : B' ≤ B) : OwnTAt w B' g n cap f := by
  obtain ⟨h1, r⟩ := h
  exact ⟨Nat.le_trans hB h1, r⟩
theorem OwnTAt.congr {w : World} {B g n cap : Nat} {f f' : Tms} (h : OwnTAt w B g n cap f) (e : ∀ i, i < n → f i = f' i) : OwnTAt w B g n cap f' := by
  obtain ⟨h1, h2, h3, cur, hh, hs, hr⟩ := h
  exact ⟨h1, h2, h3, cur, hh, hs, fun i hi => by rw [← e i hi]; exact hr i hi⟩
theorem OwnTAt.cut {w : World} {B g n m cap : Nat} {f : Tms} (h : OwnTAt w B g n cap f) (hm : m ≤ n) : OwnTAt w B g m cap f := by
  obtain ⟨h1, h2, h3, cur, hh, hs, hr⟩ := h
  exact ⟨h1, Nat.le_trans hm h2, h3, cur, hh, hs, fun i hi => hr i (Nat.lt_of_lt_of_le hi hm)⟩
theorem OwnTRow.below {w w' : World} {B n : Nat} {v : Value} {f : Tms} (h : OwnTRow w B v n f) (hb : Below w.heap.size w w') : OwnTRow w' B v n f := by
  rcases h with h | ⟨g, cap, e, h⟩
  · exact .inl h
  · exact .inr ⟨g, cap, e, h.below hb⟩
theorem OwnTRow.mono {w : World} {B B' n : Nat} {v : Value} {f : Tms} (h : OwnTRow w B v n f) (hB : B' ≤ B) : OwnTRow w B' v n f := by
  rcases h with h | ⟨g, cap, e, h⟩
  · exact .inl h
  · exact .inr ⟨g, cap, e, h.mono hB⟩
theorem OwnTRow.congr {w : World} {B n : Nat} {v : Value} {f f' : Tms} (h : OwnTRow w B v n f) (e : ∀ i, i < n → f i = f' i) : OwnTRow w B v n f' := by
  rcases h with h | ⟨g, cap, e1, h⟩
  · exact .inl h
  · exact .inr ⟨g, cap, e1, h.congr e⟩
theorem OwnTRow.set {w : World} {B n : Nat} {v : Value} {f : Tms} (h : OwnTRow w B v n f) {b : Nat} (hb : b < B) (o : Nat) (u : Value) : OwnTRow (w.setCell ⟨b, o, none⟩ u) B v n f := by
  rcases h with h | ⟨g, cap, e, h⟩
  · exact .inl h
  · exact .inr ⟨g, cap, e, h.block (Below.heap_setCell w ⟨b, o, none⟩ u g (by have := h.1; intro e; subst e; exact absurd hb (by simpa using this)))⟩

/-- a timer is stored -/
abbrev setT (w : World) (g k : Nat) (t : Tm) : World := ((((((((w.setCell ⟨g, k * 8, none⟩ (.int .i64 t.st)).setCell ⟨g, k * 8 + 1, none⟩ (.int .i64 t.wh)).setCell ⟨g, k * 8 + 2, none⟩ (.int .i64 t.nx)).setCell ⟨g, k * 8 + 3, none⟩ (.int .i64 t.pe)).setCell ⟨g, k * 8 + 4, none⟩ (.int .i64 t.pl)).setCell ⟨g, k * 8 + 5, none⟩ (.int .i64 t.ge)).setCell ⟨g, k * 8 + 6, none⟩ (.int .i64 t.ki)).setCell ⟨g, k * 8 + 7, none⟩ (.int .i64 t.ma))
theorem put8 {cur : Array Value} {n cap k : Nat} {f : Tms} (hs : cur.size = cap * 8) (hk : k < cap) (hr : RowTIn cur n f) (t : Tm) :
    RowTIn ((((((((cur.setIfInBounds (k * 8) (.int .i64 t.st)).setIfInBounds (k * 8 + 1) (.int .i64 t.wh)).setIfInBounds (k * 8 + 2) (.int .i64 t.nx)).setIfInBounds (k * 8 + 3) (.int .i64 t.pe)).setIfInBounds (k * 8 + 4) (.int .i64 t.pl)).setIfInBounds (k * 8 + 5) (.int .i64 t.ge)).setIfInBounds (k * 8 + 6) (.int .i64 t.ki)).setIfInBounds (k * 8 + 7) (.int .i64 t.ma)) n (putT f k t) := by
  intro i hi j hj
  by_cases e : i = k
  · subst e
    rw [putT_same]
    revert j
    apply below8 <;> (simp only [Array.getElem?_setIfInBounds, Array.size_setIfInBounds, tmAt]; simp; try omega)
  · rw [putT_other f t e]
    have hx : ∀ c, c < 8 → ¬ k * 8 + c = i * 8 + j := fun c hc => by omega
    rw [Array.getElem?_setIfInBounds_ne (by omega), Array.getElem?_setIfInBounds_ne (by omega), Array.getElem?_setIfInBounds_ne (by omega), Array.getElem?_setIfInBounds_ne (by omega), Array.getElem?_setIfInBounds_ne (by omega), Array.getElem?_setIfInBounds_ne (by omega), Array.getElem?_setIfInBounds_ne (by omega), Array.getElem?_setIfInBounds_ne (by omega)]
    exact hr i hi j hj
theorem OwnTAt.put {w : World} {B g n cap : Nat} {f : Tms} (h : OwnTAt w B g n cap f) {k : Nat} (hk : k < n) (t : Tm) : OwnTAt (setT w g k t) B g n cap (putT f k t) := by
  obtain ⟨h1, h2, h3, cur, hh, hs, hr⟩ := h
  refine ⟨h1, h2, h3, _, block_setCell (block_setCell (block_setCell (block_setCell (block_setCell (block_setCell (block_setCell (block_setCell hh (i := k * 8) _) (i := k * 8 + 1) _) (i := k * 8 + 2) _) (i := k * 8 + 3) _) (i := k * 8 + 4) _) (i := k * 8 + 5) _) (i := k * 8 + 6) _) (i := k * 8 + 7) _, by simp [hs], put8 hs (by omega) hr t⟩

/-! ### append -/
def cellsT (f : Tms) : Nat → List Value
  | 0 => []
  | n + 1 => cellsT f n ++ [.int .i64 (f n).st, .int .i64 (f n).wh, .int .i64 (f n).nx, .int .i64 (f n).pe, .int .i64 (f n).pl, .int .i64 (f n).ge, .int .i64 (f n).ki, .int .i64 (f n).ma]
theorem cellsT_length (f : Tms) : ∀ n, (cellsT f n).length = n * 8
  | 0 => rfl
  | n + 1 => by rw [cellsT, List.length_append, cellsT_length f n]; simp; omega
theorem cellsT_get (f : Tms) : ∀ n i, i < n → ∀ j, j < 8 → (cellsT f n)[i * 8 + j]? = some (.int .i64 (tmAt (f i) j))
  | 0, i, h => absurd h (Nat.not_lt_zero _)
  | n + 1, i, h => by
    intro j hj
    rw [cellsT]
    by_cases e : i = n
    · subst e
      rw [List.getElem?_append_right (by rw [cellsT_length]; omega), cellsT_length, Nat.add_sub_cancel_left]
      revert j
      apply below8 <;> rfl
    · rw [List.getElem?_append_left (by rw [cellsT_length]; omega)]
      exact cellsT_get f n i (by omega) j hj
theorem cellsT_at (f : Tms) (n k : Nat) (u : Value) (h : (cellsT f n)[k]? = some u) : ∃ i j, i < n ∧ j < 8 ∧ k = i * 8 + j ∧ u = .int .i64 (tmAt (f i) j) := by
  have hk : k < n * 8 := by
    have := (List.getElem?_eq_some_iff.1 h).1
    rwa [cellsT_length] at this
  refine ⟨k / 8, k % 8, by omega, by omega, by omega, ?_⟩
  have := cellsT_get f n (k / 8) (by omega) (k % 8) (by omega)
  rw [show k / 8 * 8 + k % 8 = k by omega, h] at this
  injection this
theorem cellsT_one (f : Tms) (n : Nat) : ∀ u ∈ cellsT f n, u.oneCell' = true := by
  intro u hu
  obtain ⟨k, hk, e⟩ := List.getElem_of_mem hu
  obtain ⟨i, j, _, _, _, rfl⟩ := cellsT_at f n k u (by rw [List.getElem?_eq_getElem hk, e])
  rfl
theorem ownT_of_row {w : World} {B n : Nat} {v : Value} {f : Tms} (h : w.ownsRow B 90 8 v n (cellsT f n)) : OwnTRow w B v n f := by
  rcases h.2 with ⟨rfl, rfl⟩ | ⟨g, cap, cur, rfl, hB, hg, hn, hcm, hs, ht⟩
  · exact .inl ⟨rfl, rfl⟩
  · refine .inr ⟨g, cap, rfl, hB, hn, hcm, cur, hg, hs, fun i hi j hj => ?_⟩
    have h1 := cellsT_get f n i hi j hj
    rw [← ht] at h1
    rw [List.getElem?_take_of_lt (by omega)] at h1
    simpa using h1
theorem rowT_of_own {w : World} {B g n cap : Nat} {f : Tms} (h : OwnTAt w B g n cap f) : w.ownsRow B 90 8 (.slice (some ⟨g, 0, none⟩) n cap) n (cellsT f n) := by
  obtain ⟨h1, h2, h3, cur, hh, hs, hr⟩ := h
  refine ⟨cellsT_length f n, .inr ⟨g, cap, cur, rfl, h1, hh, h2, h3, hs, ?_⟩⟩
  apply List.ext_getElem?
  intro k
  by_cases hk : k < n * 8
  · rw [List.getElem?_take_of_lt hk]
    have a := cellsT_get f n (k / 8) (by omega) (k % 8) (by omega)
    have b := hr (k / 8) (by omega) (k % 8) (by omega)
    rw [show k / 8 * 8 + k % 8 = k by omega] at a b
    rw [a]; simpa using b
  · rw [List.getElem?_eq_none (by rw [List.length_take]; omega), List.getElem?_eq_none (by rw [cellsT_length]; omega)]
theorem rowT_of_ownrow {w : World} {B n : Nat} {v : Value} {f : Tms} (h : OwnTRow w B v n f) : w.ownsRow B 90 8 v n (cellsT f n) := by
  rcases h with ⟨rfl, rfl⟩ | ⟨g, cap, rfl, h⟩
  · exact World.ownsRow_nil w B _ _
  · exact rowT_of_own h

end Go.Proofs.YtflekodaiejflaaGreat

/-
  Timers (spec, chapter 3): is a timer right?
-/
namespace Go.Proofs.YtflekodaiejflaaGreat
open Go.RowKit
set_option linter.unusedVariables false
set_option linter.unusedSimpArgs false

/-- the place that its status wants -/
def placeB (a b c : Int) (t : Tm) : Bool := if inHeapB t.st then procB a b c t.pl else (t.pl == -1 || (t.st == 2 && procB a b c t.pl))
/-- and the next time -/
def nextB (t : Tm) : Bool := if t.st = 3 then decide (t.nx < t.wh) else if t.st = 4 then decide (t.wh ≤ t.nx) else true
/-- is a timer right? -/
def timerB (a b c : Int) (t : Tm) : Bool := planB a b c && (inB t.st 0 7 && (inB t.wh 0 1000000000 && (inB t.nx 0 1000000000 && (inB t.pe 0 1000000000 && (inB t.ge 0 100000 && (inB t.ki 0 1 && (inB t.ma 0 1000000001 && (placeB a b c t && nextB t))))))))

set_option maxRecDepth 100000 in
set_option maxHeartbeats 4000000 in
theorem spTimerOk_eight (a b c st wh nx pe pl ge ki ma : Int) (w : World) :
    Calls Tryz.prog 88 #[.agg #[.int .i64 a, .int .i64 b, .int .i64 c], .agg #[.int .i64 st, .int .i64 wh, .int .i64 nx, .int .i64 pe, .int .i64 pl, .int .i64 ge, .int .i64 ki, .int .i64 ma]] w fun e w' => e = .returned (.bool (timerB a b c ⟨st, wh, nx, pe, pl, ge, ki, ma⟩)) ∧ Below w.heap.size w w' := by
  have k0 := ((Below.refl w.heap.size w).alloc (Nat.le_refl _) (.cells #[.int .i64 a, .int .i64 b, .int .i64 c] 46)).alloc (by simp) (.cells #[.int .i64 st, .int .i64 wh, .int .i64 nx, .int .i64 pe, .int .i64 pl, .int .i64 ge, .int .i64 ki, .int .i64 ma] 90)
  cases h1 : planB a b c
  · rw [show timerB a b c ⟨st, wh, nx, pe, pl, ge, ki, ma⟩ = false by simp [timerB, placeB, nextB, h1]]
    go_enter Tryz.func88, Tryz.ntmps88
    go_wp2_with (first
        | (go_at_call 86; refine (spPlanOk_any _ _ _ _).mono ?_; rintro e w1 ⟨rfl, hb⟩; obtain ⟨hc, hf⟩ := bcell hb)
        | (go_at_call 34; refine (l1In_any _ _ _ _).mono ?_; rintro e w' ⟨rfl, rfl⟩)
        | (go_at_call 92; refine (l1Time_any _ _).mono ?_; rintro e w' ⟨rfl, rfl⟩)
        | (go_at_call 110; refine (spInHeap_any _ _).mono ?_; rintro e w' ⟨rfl, rfl⟩)
        | (go_at_call 111; refine (l1Proc_any _ _ _ _ _).mono ?_; rintro e w2 ⟨rfl, hb2⟩; have hb3 := hb.trans (hb2.mono hb.size); obtain ⟨hc2, hf2⟩ := bcell hb3))
    go_ret
    exact ⟨ret_bool' (by simp), k0.trans (hb.mono k0.size)⟩
  cases h2 : inB st 0 7
  · rw [show timerB a b c ⟨st, wh, nx, pe, pl, ge, ki, ma⟩ = false by simp [timerB, placeB, nextB, h1, h2]]
    go_enter Tryz.func88, Tryz.ntmps88
    go_wp2_with (first
        | (go_at_call 86; refine (spPlanOk_any _ _ _ _).mono ?_; rintro e w1 ⟨rfl, hb⟩; obtain ⟨hc, hf⟩ := bcell hb)
        | (go_at_call 34; refine (l1In_any _ _ _ _).mono ?_; rintro e w' ⟨rfl, rfl⟩)
        | (go_at_call 92; refine (l1Time_any _ _).mono ?_; rintro e w' ⟨rfl, rfl⟩)
        | (go_at_call 110; refine (spInHeap_any _ _).mono ?_; rintro e w' ⟨rfl, rfl⟩)
        | (go_at_call 111; refine (l1Proc_any _ _ _ _ _).mono ?_; rintro e w2 ⟨rfl, hb2⟩; have hb3 := hb.trans (hb2.mono hb.size); obtain ⟨hc2, hf2⟩ := bcell hb3))
    go_ret
    exact ⟨ret_bool' (by simp), k0.trans (hb.mono k0.size)⟩
  cases h3 : inB wh 0 1000000000
  · rw [show timerB a b c ⟨st, wh, nx, pe, pl, ge, ki, ma⟩ = false by simp [timerB, placeB, nextB, h1, h2, h3]]
    go_enter Tryz.func88, Tryz.ntmps88
    go_wp2_with (first
        | (go_at_call 86; refine (spPlanOk_any _ _ _ _).mono ?_; rintro e w1 ⟨rfl, hb⟩; obtain ⟨hc, hf⟩ := bcell hb)
        | (go_at_call 34; refine (l1In_any _ _ _ _).mono ?_; rintro e w' ⟨rfl, rfl⟩)
        | (go_at_call 92; refine (l1Time_any _ _).mono ?_; rintro e w' ⟨rfl, rfl⟩)
        | (go_at_call 110; refine (spInHeap_any _ _).mono ?_; rintro e w' ⟨rfl, rfl⟩)
        | (go_at_call 111; refine (l1Proc_any _ _ _ _ _).mono ?_; rintro e w2 ⟨rfl, hb2⟩; have hb3 := hb.trans (hb2.mono hb.size); obtain ⟨hc2, hf2⟩ := bcell hb3))
    go_ret
    exact ⟨ret_bool' (by simp), k0.trans (hb.mono k0.size)⟩
  cases h4 : inB nx 0 1000000000
  · rw [show timerB a b c ⟨st, wh, nx, pe, pl, ge, ki, ma⟩ = false by simp [timerB, placeB, nextB, h1, h2, h3, h4]]
    go_enter Tryz.func88, Tryz.ntmps88
    go_wp2_with (first
        | (go_at_call 86; refine (spPlanOk_any _ _ _ _).mono ?_; rintro e w1 ⟨rfl, hb⟩; obtain ⟨hc, hf⟩ := bcell hb)
        | (go_at_call 34; refine (l1In_any _ _ _ _).mono ?_; rintro e w' ⟨rfl, rfl⟩)
        | (go_at_call 92; refine (l1Time_any _ _).mono ?_; rintro e w' ⟨rfl, rfl⟩)
        | (go_at_call 110; refine (spInHeap_any _ _).mono ?_; rintro e w' ⟨rfl, rfl⟩)
        | (go_at_call 111; refine (l1Proc_any _ _ _ _ _).mono ?_; rintro e w2 ⟨rfl, hb2⟩; have hb3 := hb.trans (hb2.mono hb.size); obtain ⟨hc2, hf2⟩ := bcell hb3))
    go_ret
    exact ⟨ret_bool' (by simp), k0.trans (hb.mono k0.size)⟩
  cases h5 : inB pe 0 1000000000
  · rw [show timerB a b c ⟨st, wh, nx, pe, pl, ge, ki, ma⟩ = false by simp [timerB, placeB, nextB, h1, h2, h3, h4, h5]]
    go_enter Tryz.func88, Tryz.ntmps88
    go_wp2_with (first
        | (go_at_call 86; refine (spPlanOk_any _ _ _ _).mono ?_; rintro e w1 ⟨rfl, hb⟩; obtain ⟨hc, hf⟩ := bcell hb)
        | (go_at_call 34; refine (l1In_any _ _ _ _).mono ?_; rintro e w' ⟨rfl, rfl⟩)
        | (go_at_call 92; refine (l1Time_any _ _).mono ?_; rintro e w' ⟨rfl, rfl⟩)
        | (go_at_call 110; refine (spInHeap_any _ _).mono ?_; rintro e w' ⟨rfl, rfl⟩)
        | (go_at_call 111; refine (l1Proc_any _ _ _ _ _).mono ?_; rintro e w2 ⟨rfl, hb2⟩; have hb3 := hb.trans (hb2.mono hb.size); obtain ⟨hc2, hf2⟩ := bcell hb3))
    go_ret
    exact ⟨ret_bool' (by simp), k0.trans (hb.mono k0.size)⟩
  cases h6 : inB ge 0 100000
  · rw [show timerB a b c ⟨st, wh, nx, pe, pl, ge, ki, ma⟩ = false by simp [timerB, placeB, nextB, h1, h2, h3, h4, h5, h6]]
    go_enter Tryz.func88, Tryz.ntmps88
    go_wp2_with (first
        | (go_at_call 86; refine (spPlanOk_any _ _ _ _).mono ?_; rintro e w1 ⟨rfl, hb⟩; obtain ⟨hc, hf⟩ := bcell hb)
        | (go_at_call 34; refine (l1In_any _ _ _ _).mono ?_; rintro e w' ⟨rfl, rfl⟩)
        | (go_at_call 92; refine (l1Time_any _ _).mono ?_; rintro e w' ⟨rfl, rfl⟩)
        | (go_at_call 110; refine (spInHeap_any _ _).mono ?_; rintro e w' ⟨rfl, rfl⟩)
        | (go_at_call 111; refine (l1Proc_any _ _ _ _ _).mono ?_; rintro e w2 ⟨rfl, hb2⟩; have hb3 := hb.trans (hb2.mono hb.size); obtain ⟨hc2, hf2⟩ := bcell hb3))
    go_ret
    exact ⟨ret_bool' (by simp), k0.trans (hb.mono k0.size)⟩
  cases h7 : inB ki 0 1
  · rw [show timerB a b c ⟨st, wh, nx, pe, pl, ge, ki, ma⟩ = false by simp [timerB, placeB, nextB, h1, h2, h3, h4, h5, h6, h7]]
    go_enter Tryz.func88, Tryz.ntmps88
    go_wp2_with (first
        | (go_at_call 86; refine (spPlanOk_any _ _ _ _).mono ?_; rintro e w1 ⟨rfl, hb⟩; obtain ⟨hc, hf⟩ := bcell hb)
        | (go_at_call 34; refine (l1In_any _ _ _ _).mono ?_; rintro e w' ⟨rfl, rfl⟩)
        | (go_at_call 92; refine (l1Time_any _ _).mono ?_; rintro e w' ⟨rfl, rfl⟩)
        | (go_at_call 110; refine (spInHeap_any _ _).mono ?_; rintro e w' ⟨rfl, rfl⟩)
        | (go_at_call 111; refine (l1Proc_any _ _ _ _ _).mono ?_; rintro e w2 ⟨rfl, hb2⟩; have hb3 := hb.trans (hb2.mono hb.size); obtain ⟨hc2, hf2⟩ := bcell hb3))
    go_ret
    exact ⟨ret_bool' (by simp), k0.trans (hb.mono k0.size)⟩
  cases h8 : inB ma 0 1000000001
  · rw [show timerB a b c ⟨st, wh, nx, pe, pl, ge, ki, ma⟩ = false by simp [timerB, placeB, nextB, h1, h2, h3, h4, h5, h6, h7, h8]]
    go_enter Tryz.func88, Tryz.ntmps88
    go_wp2_with (first
        | (go_at_call 86; refine (spPlanOk_any _ _ _ _).mono ?_; rintro e w1 ⟨rfl, hb⟩; obtain ⟨hc, hf⟩ := bcell hb)
        | (go_at_call 34; refine (l1In_any _ _ _ _).mono ?_; rintro e w' ⟨rfl, rfl⟩)
        | (go_at_call 92; refine (l1Time_any _ _).mono ?_; rintro e w' ⟨rfl, rfl⟩)
        | (go_at_call 110; refine (spInHeap_any _ _).mono ?_; rintro e w' ⟨rfl, rfl⟩)
        | (go_at_call 111; refine (l1Proc_any _ _ _ _ _).mono ?_; rintro e w2 ⟨rfl, hb2⟩; have hb3 := hb.trans (hb2.mono hb.size); obtain ⟨hc2, hf2⟩ := bcell hb3))
    go_ret
    exact ⟨ret_bool' (by simp), k0.trans (hb.mono k0.size)⟩
  cases h9 : inHeapB st
  · have n3 : ¬ st = 3 := by intro e; rw [e] at h9; exact absurd h9 (by decide)
    have n4 : ¬ st = 4 := by intro e; rw [e] at h9; exact absurd h9 (by decide)
    have m3 : (st == 3) = false := by simpa using n3
    have m4 : (st == 4) = false := by simpa using n4
    by_cases hp : pl = -1
    · subst hp
      rw [show timerB a b c ⟨st, wh, nx, pe, -1, ge, ki, ma⟩ = true by simp [timerB, placeB, nextB, h1, h2, h3, h4, h5, h6, h7, h8, h9, n3, n4]]
      go_enter Tryz.func88, Tryz.ntmps88
      go_wp2_with (first
          | (go_at_call 86; refine (spPlanOk_any _ _ _ _).mono ?_; rintro e w1 ⟨rfl, hb⟩; obtain ⟨hc, hf⟩ := bcell hb)
          | (go_at_call 34; refine (l1In_any _ _ _ _).mono ?_; rintro e w' ⟨rfl, rfl⟩)
          | (go_at_call 92; refine (l1Time_any _ _).mono ?_; rintro e w' ⟨rfl, rfl⟩)
          | (go_at_call 110; refine (spInHeap_any _ _).mono ?_; rintro e w' ⟨rfl, rfl⟩)
          | (go_at_call 111; refine (l1Proc_any _ _ _ _ _).mono ?_; rintro e w2 ⟨rfl, hb2⟩; have hb3 := hb.trans (hb2.mono hb.size); obtain ⟨hc2, hf2⟩ := bcell hb3))
      go_ret
      exact ⟨ret_bool' (by simp), k0.trans (hb.mono k0.size)⟩
    · have mp : (pl == -1) = false := by simpa using hp
      have mp2 : (pl != -1) = true := by simpa using hp
      by_cases hs : st = 2
      · subst hs
        cases h10 : procB a b c pl
        · rw [show timerB a b c ⟨2, wh, nx, pe, pl, ge, ki, ma⟩ = false by simp [timerB, placeB, nextB, h1, h2, h3, h4, h5, h6, h7, h8, h9, hp, h10]]
          clear hp
          go_enter Tryz.func88, Tryz.ntmps88
          go_wp2_with (first
              | (go_at_call 86; refine (spPlanOk_any _ _ _ _).mono ?_; rintro e w1 ⟨rfl, hb⟩; obtain ⟨hc, hf⟩ := bcell hb)
              | (go_at_call 34; refine (l1In_any _ _ _ _).mono ?_; rintro e w' ⟨rfl, rfl⟩)
              | (go_at_call 92; refine (l1Time_any _ _).mono ?_; rintro e w' ⟨rfl, rfl⟩)
              | (go_at_call 110; refine (spInHeap_any _ _).mono ?_; rintro e w' ⟨rfl, rfl⟩)
              | (go_at_call 111; refine (l1Proc_any _ _ _ _ _).mono ?_; rintro e w2 ⟨rfl, hb2⟩; have hb3 := hb.trans (hb2.mono hb.size); obtain ⟨hc2, hf2⟩ := bcell hb3))
          go_ret
          exact ⟨ret_bool' (by simp), k0.trans (hb3.mono k0.size)⟩
        · rw [show timerB a b c ⟨2, wh, nx, pe, pl, ge, ki, ma⟩ = true by simp [timerB, placeB, nextB, h1, h2, h3, h4, h5, h6, h7, h8, h9, h10]]
          clear hp
          go_enter Tryz.func88, Tryz.ntmps88
          go_wp2_with (first
              | (go_at_call 86; refine (spPlanOk_any _ _ _ _).mono ?_; rintro e w1 ⟨rfl, hb⟩; obtain ⟨hc, hf⟩ := bcell hb)
              | (go_at_call 34; refine (l1In_any _ _ _ _).mono ?_; rintro e w' ⟨rfl, rfl⟩)
              | (go_at_call 92; refine (l1Time_any _ _).mono ?_; rintro e w' ⟨rfl, rfl⟩)
              | (go_at_call 110; refine (spInHeap_any _ _).mono ?_; rintro e w' ⟨rfl, rfl⟩)
              | (go_at_call 111; refine (l1Proc_any _ _ _ _ _).mono ?_; rintro e w2 ⟨rfl, hb2⟩; have hb3 := hb.trans (hb2.mono hb.size); obtain ⟨hc2, hf2⟩ := bcell hb3))
          go_ret
          exact ⟨ret_bool' (by simp), k0.trans (hb3.mono k0.size)⟩
      · have ms : (st == 2) = false := by simpa using hs
        have ms2 : (st != 2) = true := by simpa using hs
        rw [show timerB a b c ⟨st, wh, nx, pe, pl, ge, ki, ma⟩ = false by simp [timerB, placeB, nextB, h1, h2, h3, h4, h5, h6, h7, h8, h9, hp, hs]]
        clear hs hp
        go_enter Tryz.func88, Tryz.ntmps88
        go_wp2_with (first
            | (go_at_call 86; refine (spPlanOk_any _ _ _ _).mono ?_; rintro e w1 ⟨rfl, hb⟩; obtain ⟨hc, hf⟩ := bcell hb)
            | (go_at_call 34; refine (l1In_any _ _ _ _).mono ?_; rintro e w' ⟨rfl, rfl⟩)
            | (go_at_call 92; refine (l1Time_any _ _).mono ?_; rintro e w' ⟨rfl, rfl⟩)
            | (go_at_call 110; refine (spInHeap_any _ _).mono ?_; rintro e w' ⟨rfl, rfl⟩)
            | (go_at_call 111; refine (l1Proc_any _ _ _ _ _).mono ?_; rintro e w2 ⟨rfl, hb2⟩; have hb3 := hb.trans (hb2.mono hb.size); obtain ⟨hc2, hf2⟩ := bcell hb3))
        go_ret
        exact ⟨ret_bool' (by simp), k0.trans (hb.mono k0.size)⟩
  · cases h10 : procB a b c pl
    · rw [show timerB a b c ⟨st, wh, nx, pe, pl, ge, ki, ma⟩ = false by simp [timerB, placeB, nextB, h1, h2, h3, h4, h5, h6, h7, h8, h9, h10]]
      go_enter Tryz.func88, Tryz.ntmps88
      go_wp2_with (first
          | (go_at_call 86; refine (spPlanOk_any _ _ _ _).mono ?_; rintro e w1 ⟨rfl, hb⟩; obtain ⟨hc, hf⟩ := bcell hb)
          | (go_at_call 34; refine (l1In_any _ _ _ _).mono ?_; rintro e w' ⟨rfl, rfl⟩)
          | (go_at_call 92; refine (l1Time_any _ _).mono ?_; rintro e w' ⟨rfl, rfl⟩)
          | (go_at_call 110; refine (spInHeap_any _ _).mono ?_; rintro e w' ⟨rfl, rfl⟩)
          | (go_at_call 111; refine (l1Proc_any _ _ _ _ _).mono ?_; rintro e w2 ⟨rfl, hb2⟩; have hb3 := hb.trans (hb2.mono hb.size); obtain ⟨hc2, hf2⟩ := bcell hb3))
      go_ret
      exact ⟨ret_bool' (by simp), k0.trans (hb3.mono k0.size)⟩
    · by_cases hs : st = 3
      · subst hs
        by_cases hl : nx < wh
        · have hd : decide (wh ≤ nx) = false := by simp; omega
          rw [show timerB a b c ⟨3, wh, nx, pe, pl, ge, ki, ma⟩ = true by simp [timerB, placeB, nextB, h1, h2, h3, h4, h5, h6, h7, h8, h9, h10, hl]]
          go_enter Tryz.func88, Tryz.ntmps88
          go_wp2_with (first
              | (go_at_call 86; refine (spPlanOk_any _ _ _ _).mono ?_; rintro e w1 ⟨rfl, hb⟩; obtain ⟨hc, hf⟩ := bcell hb)
              | (go_at_call 34; refine (l1In_any _ _ _ _).mono ?_; rintro e w' ⟨rfl, rfl⟩)
              | (go_at_call 92; refine (l1Time_any _ _).mono ?_; rintro e w' ⟨rfl, rfl⟩)
              | (go_at_call 110; refine (spInHeap_any _ _).mono ?_; rintro e w' ⟨rfl, rfl⟩)
              | (go_at_call 111; refine (l1Proc_any _ _ _ _ _).mono ?_; rintro e w2 ⟨rfl, hb2⟩; have hb3 := hb.trans (hb2.mono hb.size); obtain ⟨hc2, hf2⟩ := bcell hb3))
          go_ret
          exact ⟨ret_bool' (by simp), k0.trans (hb3.mono k0.size)⟩
        · have hd : decide (wh ≤ nx) = true := by simp; omega
          rw [show timerB a b c ⟨3, wh, nx, pe, pl, ge, ki, ma⟩ = false by simp [timerB, placeB, nextB, h1, h2, h3, h4, h5, h6, h7, h8, h9, h10, hl]]
          go_enter Tryz.func88, Tryz.ntmps88
          go_wp2_with (first
              | (go_at_call 86; refine (spPlanOk_any _ _ _ _).mono ?_; rintro e w1 ⟨rfl, hb⟩; obtain ⟨hc, hf⟩ := bcell hb)
              | (go_at_call 34; refine (l1In_any _ _ _ _).mono ?_; rintro e w' ⟨rfl, rfl⟩)
              | (go_at_call 92; refine (l1Time_any _ _).mono ?_; rintro e w' ⟨rfl, rfl⟩)
              | (go_at_call 110; refine (spInHeap_any _ _).mono ?_; rintro e w' ⟨rfl, rfl⟩)
              | (go_at_call 111; refine (l1Proc_any _ _ _ _ _).mono ?_; rintro e w2 ⟨rfl, hb2⟩; have hb3 := hb.trans (hb2.mono hb.size); obtain ⟨hc2, hf2⟩ := bcell hb3))
          go_ret
          exact ⟨ret_bool' (by simp), k0.trans (hb3.mono k0.size)⟩
      · have m3 : (st == 3) = false := by simpa using hs
        by_cases hs4 : st = 4
        · subst hs4
          by_cases hl : nx < wh
          · have hd : decide (nx < wh) = true := by simpa using hl
            rw [show timerB a b c ⟨4, wh, nx, pe, pl, ge, ki, ma⟩ = false by simp [timerB, placeB, nextB, h1, h2, h3, h4, h5, h6, h7, h8, h9, h10, hl]]
            go_enter Tryz.func88, Tryz.ntmps88
            go_wp2_with (first
                | (go_at_call 86; refine (spPlanOk_any _ _ _ _).mono ?_; rintro e w1 ⟨rfl, hb⟩; obtain ⟨hc, hf⟩ := bcell hb)
                | (go_at_call 34; refine (l1In_any _ _ _ _).mono ?_; rintro e w' ⟨rfl, rfl⟩)
                | (go_at_call 92; refine (l1Time_any _ _).mono ?_; rintro e w' ⟨rfl, rfl⟩)
                | (go_at_call 110; refine (spInHeap_any _ _).mono ?_; rintro e w' ⟨rfl, rfl⟩)
                | (go_at_call 111; refine (l1Proc_any _ _ _ _ _).mono ?_; rintro e w2 ⟨rfl, hb2⟩; have hb3 := hb.trans (hb2.mono hb.size); obtain ⟨hc2, hf2⟩ := bcell hb3))
            go_ret
            exact ⟨ret_bool' (by simp), k0.trans (hb3.mono k0.size)⟩
          · have hd : decide (nx < wh) = false := by simpa using hl
            rw [show timerB a b c ⟨4, wh, nx, pe, pl, ge, ki, ma⟩ = true by simp [timerB, placeB, nextB, h1, h2, h3, h4, h5, h6, h7, h8, h9, h10, Int.not_lt.1 hl]]
            go_enter Tryz.func88, Tryz.ntmps88
            go_wp2_with (first
                | (go_at_call 86; refine (spPlanOk_any _ _ _ _).mono ?_; rintro e w1 ⟨rfl, hb⟩; obtain ⟨hc, hf⟩ := bcell hb)
                | (go_at_call 34; refine (l1In_any _ _ _ _).mono ?_; rintro e w' ⟨rfl, rfl⟩)
                | (go_at_call 92; refine (l1Time_any _ _).mono ?_; rintro e w' ⟨rfl, rfl⟩)
                | (go_at_call 110; refine (spInHeap_any _ _).mono ?_; rintro e w' ⟨rfl, rfl⟩)
                | (go_at_call 111; refine (l1Proc_any _ _ _ _ _).mono ?_; rintro e w2 ⟨rfl, hb2⟩; have hb3 := hb.trans (hb2.mono hb.size); obtain ⟨hc2, hf2⟩ := bcell hb3))
            go_ret
            exact ⟨ret_bool' (by simp), k0.trans (hb3.mono k0.size)⟩
        · have m4 : (st == 4) = false := by simpa using hs4
          rw [show timerB a b c ⟨st, wh, nx, pe, pl, ge, ki, ma⟩ = true by simp [timerB, placeB, nextB, h1, h2, h3, h4, h5, h6, h7, h8, h9, h10, hs, hs4]]
          clear hs hs4
          go_enter Tryz.func88, Tryz.ntmps88
          go_wp2_with (first
              | (go_at_call 86; refine (spPlanOk_any _ _ _ _).mono ?_; rintro e w1 ⟨rfl, hb⟩; obtain ⟨hc, hf⟩ := bcell hb)
              | (go_at_call 34; refine (l1In_any _ _ _ _).mono ?_; rintro e w' ⟨rfl, rfl⟩)
              | (go_at_call 92; refine (l1Time_any _ _).mono ?_; rintro e w' ⟨rfl, rfl⟩)
              | (go_at_call 110; refine (spInHeap_any _ _).mono ?_; rintro e w' ⟨rfl, rfl⟩)
              | (go_at_call 111; refine (l1Proc_any _ _ _ _ _).mono ?_; rintro e w2 ⟨rfl, hb2⟩; have hb3 := hb.trans (hb2.mono hb.size); obtain ⟨hc2, hf2⟩ := bcell hb3))
          go_ret
          exact ⟨ret_bool' (by simp), k0.trans (hb3.mono k0.size)⟩

end Go.Proofs.YtflekodaiejflaaGreat

/-
  A plan of a law's own (laws).
-/
namespace Go.Proofs.YtflekodaiejflaaGreat
open Go.RowKit
set_option linter.unusedVariables false
set_option linter.unusedSimpArgs false

set_option maxHeartbeats 400000 in
theorem toPlan_any (a b c : Int) (w : World) :
    Calls Tryz.prog 6 #[.agg #[.int .i64 a, .int .i64 b, .int .i64 c]] w fun e w' => e = .returned (.agg #[.int .i64 a, .int .i64 b, .int .i64 c]) ∧ Below w.heap.size w w' := by
  go_enter Tryz.func6, Tryz.ntmps6
  go_wp2
  exact bodyPost_ret (v := .agg #[.int .i64 a, .int .i64 b, .int .i64 c]) (by simp [results, Tryz.results6, go_sem]) rfl ⟨rfl, (((Below.refl _ _).alloc (Nat.le_refl _) _).alloc (by simp) _).alloc (by simp; omega) _⟩

end Go.Proofs.YtflekodaiejflaaGreat

/-
  Structs of plain numbers, opened and shut: any number of fields. (No number of the program's but that of int64.)
-/
namespace Go.Proofs.YtflekodaiejflaaGreat
open Go.ChangeShapes Go.WideShapes Go.ChangeAt Go.RowKit Go.Joins
set_option linter.unusedVariables false
set_option linter.unusedSimpArgs false

/-- every field is a number, and lies in one cell -/
def flatF (I : TypeId) (fs : Array Field) : Bool := (List.range fs.size).all fun i => match fs[i]? with
  | some f => f.offset == i && f.type == I
  | none => false
theorem flatF_at {I : TypeId} {fs : Array Field} (h : flatF I fs = true) {i : Nat} {f : Field} (hf : fs[i]? = some f) : f.offset = i ∧ f.type = I := by
  have hi : i < fs.size := (Array.getElem?_eq_some_iff.1 hf).1
  have := List.all_eq_true.1 h i (List.mem_range.2 hi)
  rw [hf] at this
  simpa using this

abbrev numsV (zs : List Int) : List Value := zs.map fun z => .int .i64 z
abbrev numsD {H : Type} (zs : List Int) : List (DataW H) := zs.map fun z => .lit (.int .i64 z)

theorem flat_list {H : Type} {enc : TypeId × Value → H} {P : Program} {w : World} {base n : Nat} {sp : Nat → Bool} {hd : Bool} {I : TypeId} (hI : P.underlying I = some (.int .i64)) :
    ∀ (cs : List Value) (xs : List (DataW H × List MemPlace)), xs.length = cs.length → (∀ (i : Nat) (c : Value), cs[i]? = some c → DataW.trod enc P w base sp hd n I [c] = xs[i]?) →
      ∃ zs : List Int, cs = numsV zs ∧ xs = zs.map (fun z => (.lit (.int .i64 z), [])) ∧ ∀ z ∈ zs, (Lit.int .i64 z).wf = true
  | [], [], _, _ => ⟨[], rfl, rfl, fun _ h => by cases h⟩
  | [], _ :: _, h, _ => by simp at h
  | _ :: _, [], h, _ => by simp at h
  | c :: cs, x :: xs, h, hf => by
    obtain ⟨z, e1, e2, hw⟩ := DataW.trod_int hI (hf 0 c rfl)
    obtain ⟨zs, h1, h2, h3⟩ := flat_list hI cs xs (by simpa using h) (fun i d hd => by simpa using hf (i + 1) d (by simpa using hd))
    simp at e1
    refine ⟨z :: zs, by rw [e1, h1]; rfl, by rw [e2, h2]; rfl, fun y hy => ?_⟩
    rcases List.mem_cons.1 hy with rfl | hy
    · exact hw
    · exact h3 y hy

/-- such a struct's cells, opened -/
theorem trod_flat {H : Type} {enc : TypeId × Value → H} {P : Program} {w : World} {base fuel : Nat} {sp : Nat → Bool} {hd : Bool} {t I : TypeId} {fs : Array Field} {cs : List Value} {x : DataW H × List MemPlace}
    (ht : P.underlying t = some (.struct fs)) (hf : flatF I fs = true) (hI : P.underlying I = some (.int .i64)) (hc : P.cellsOf I = 1) (hC : P.cellsOf t = fs.size) (h : DataW.trod enc P w base sp hd fuel t cs = some x) :
    ∃ zs : List Int, zs.length = fs.size ∧ cs = numsV zs ∧ x = (.agg (numsD zs), []) ∧ ∀ z ∈ zs, (Lit.int .i64 z).wf = true := by
  obtain ⟨xs, n, _, rfl, hl, hlen, hx⟩ := DataW.trod_struct ht h
  obtain ⟨zs, h1, h2, h3⟩ := flat_list (enc := enc) (w := w) (base := base) (sp := sp) (hd := hd) (n := n) hI cs xs (by omega) (fun i c hc' => by
    have hi : i < cs.length := (List.getElem?_eq_some_iff.1 hc').1
    obtain ⟨f, hfi⟩ : ∃ f, fs[i]? = some f := ⟨fs[i]'(by omega), Array.getElem?_eq_getElem (by omega)⟩
    obtain ⟨e1, e2⟩ := flatF_at hf hfi
    have hq := hx i f hfi
    rw [e1, e2, hc] at hq
    rw [← hq]
    congr 1
    rw [List.drop_eq_getElem_cons hi]
    have := List.getElem?_eq_getElem hi
    rw [this] at hc'
    injection hc' with hc'
    simp [hc'])
  refine ⟨zs, by rw [h1] at hl; simpa [hC] using hl, h1, ?_, h3⟩
  rw [h2]
  simp [numsD, Function.comp_def]

/-- and shut -/
theorem trod_flat_mk {H : Type} {enc : TypeId × Value → H} {P : Program} {w : World} {base n : Nat} {sp : Nat → Bool} {hd : Bool} {t I : TypeId} {fs : Array Field} {zs : List Int}
    (ht : P.underlying t = some (.struct fs)) (hf : flatF I fs = true) (hI : P.underlying I = some (.int .i64)) (hc : P.cellsOf I = 1) (hC : P.cellsOf t = fs.size) (hl : zs.length = fs.size) (hw : ∀ z ∈ zs, (Lit.int .i64 z).wf = true) :
    DataW.trod enc P w base sp hd (n + 2) t (numsV zs) = some (.agg (numsD zs), []) := by
  have hm := trod_struct_mk (enc := enc) (w := w) (base := base) (spare := sp) (held := hd) (n := n + 1) (cs := numsV zs) (xs := zs.map (fun z => (.lit (.int .i64 z), []))) ht (by simp [hC, hl])
    (mapM_some_of_get _ _ (by simp [hl]) fun i f hfi => by
      have hfi : fs[i]? = some f := by simpa using hfi
      have hi : i < fs.size := (Array.getElem?_eq_some_iff.1 hfi).1
      obtain ⟨e1, e2⟩ := flatF_at hf hfi
      rw [e1, e2, hc]
      have hi2 : i < zs.length := by omega
      have hd1 : (List.drop i (numsV zs)).take 1 = [.int .i64 zs[i]] := by
        rw [List.drop_eq_getElem_cons (by simpa using hi2)]
        simp
      rw [hd1]
      rw [List.getElem?_map, List.getElem?_eq_getElem hi2]
      simp only [Option.map_some]
      have hz := hw zs[i] (List.getElem_mem hi2)
      unfold DataW.trod
      rw [hI]
      simp [hz])
  rw [hm]
  simp [numsD, Function.comp_def]

theorem open_flat {H : Type} {enc : TypeId × Value → H} {P : Program} {w : World} {b0 base : Nat} {sp : Nat → Bool} {hd : Bool} {r : Reach} {t I : TypeId} {fs : Array Field} {v : Value} {d : DataW H} {p : List MemPlace}
    (ht : P.underlying t = some (.struct fs)) (hf : flatF I fs = true) (hI : P.underlying I = some (.int .i64)) (hc : P.cellsOf I = 1) (hC : P.cellsOf t = fs.size)
    (hv : Value.okWide P w r b0 t v) (h : DataW.Trod enc P w base sp hd t v d p) :
    ∃ zs : List Int, zs.length = fs.size ∧ v = .agg (numsV zs).toArray ∧ d = .agg (numsD zs) ∧ p = [] ∧ ∀ z ∈ zs, (Lit.int .i64 z).wf = true := by
  obtain ⟨cs, rfl, hsz⟩ := okWide_struct ht hv
  obtain ⟨fuel, h⟩ := h
  obtain ⟨zs, h1, h2, h3, h4⟩ := trod_flat ht hf hI hc hC h
  simp only [Prod.mk.injEq] at h3
  refine ⟨zs, h1, ?_, h3.1, h3.2, h4⟩
  have : cs.toList = numsV zs := by simpa [Value.cells] using h2
  rw [← this]
theorem shut_flat {H : Type} {enc : TypeId × Value → H} {P : Program} {w : World} {base : Nat} {sp : Nat → Bool} {hd : Bool} {t I : TypeId} {fs : Array Field} {zs : List Int}
    (ht : P.underlying t = some (.struct fs)) (hf : flatF I fs = true) (hI : P.underlying I = some (.int .i64)) (hc : P.cellsOf I = 1) (hC : P.cellsOf t = fs.size) (hl : zs.length = fs.size) (hw : ∀ z ∈ zs, (Lit.int .i64 z).wf = true) :
    DataW.Trod enc P w base sp hd t (.agg (numsV zs).toArray) (.agg (numsD zs)) [] :=
  ⟨2, by simpa [Value.cells] using trod_flat_mk (n := 0) ht hf hI hc hC hl hw⟩
theorem eight {zs : List Int} (h : zs.length = 8) : ∃ a b c d e f g k, zs = [a, b, c, d, e, f, g, k] := by
  match zs, h with
  | [a, b, c, d, e, f, g, k], _ => exact ⟨a, b, c, d, e, f, g, k, rfl⟩

end Go.Proofs.YtflekodaiejflaaGreat

/-
  A plan of a law, opened and shut.
-/
namespace Go.Proofs.YtflekodaiejflaaGreat
open Go.ChangeShapes Go.WideShapes Go.ChangeAt Go.RowKit Go.Joins
set_option linter.unusedVariables false
set_option linter.unusedSimpArgs false

theorem cellsPlanLaw : Tryz.prog.cellsOf 23 = 3 := by kernel_rfl
set_option maxRecDepth 100000 in
/-- a plan of three numbers, opened -/
theorem open_plan {H : Type} {enc : TypeId × Value → H} {W : World} {base : Nat} {sp : Nat → Bool} {hd : Bool} {v : Value} {d : DataW H} {p : List MemPlace}
    (hv : Value.okWide Tryz.prog W .any base 23 v) (h : DataW.Trod enc Tryz.prog W 0 sp hd 23 v d p) :
    ∃ a b c : Int, v = .agg #[.int .i64 a, .int .i64 b, .int .i64 c] ∧ d = .agg (numsD [a, b, c]) ∧ p = [] ∧ ∀ z ∈ [a, b, c], (Lit.int .i64 z).wf = true := by
  obtain ⟨zs, hl, rfl, rfl, rfl, hw⟩ := open_flat Tryz.underlying23 (I := 2) (by kernel_rfl) Tryz.underlying2 (by kernel_rfl) (by kernel_rfl) hv h
  match zs, hl with
  | [a, b, c], _ => exact ⟨a, b, c, rfl, rfl, rfl, hw⟩
set_option maxRecDepth 100000 in
theorem shut_plan {H : Type} {enc : TypeId × Value → H} {a b c : Int} (hw : ∀ z ∈ [a, b, c], (Lit.int .i64 z).wf = true) (W' : World) (n : Nat) (sp : Nat → Bool) (hd : Bool) :
    DataW.Trod enc Tryz.prog W' n sp hd 23 (.agg #[.int .i64 a, .int .i64 b, .int .i64 c]) (.agg (numsD [a, b, c])) [] :=
  shut_flat (zs := [a, b, c]) Tryz.underlying23 (I := 2) (by kernel_rfl) Tryz.underlying2 (by kernel_rfl) (by kernel_rfl) rfl hw

end Go.Proofs.YtflekodaiejflaaGreat

/-
  The exact laws on timers, told what the program's own functions answer.
-/
namespace Go.Proofs.YtflekodaiejflaaGreat
open Go.ChangeShapes Go.WideShapes Go.ChangeAt Go.RowKit Go.Joins
set_option linter.unusedVariables false
set_option linter.unusedSimpArgs false

/-- what the program's TimerOk, InHeap are to answer -/
def AsksT (fn : FuncId) : Prop := ∀ (a b c : Int) (t : Tm) (w : World), Calls Tryz.prog fn #[.agg #[.int .i64 a, .int .i64 b, .int .i64 c], tmV t] w fun e w' => e = .returned (.bool (timerB a b c t)) ∧ Below w.heap.size w w'
def AsksS (fn : FuncId) : Prop := ∀ (s : Int) (w : World), Calls Tryz.prog fn #[.int .i64 s] w fun e w' => e = .returned (.bool (inHeapB s)) ∧ Below w.heap.size w w'

set_option maxHeartbeats 400000 in
theorem toTimer_any (t : Tm) (w : World) :
    Calls Tryz.prog 43 #[tmV t] w fun e w' => e = .returned (tmV t) ∧ Below w.heap.size w w' := by
  go_enter Tryz.func43, Tryz.ntmps43
  go_wp2
  exact bodyPost_ret (v := tmV t) (by simp [results, Tryz.results43, go_sem]) rfl ⟨rfl, (((Below.refl _ _).alloc (Nat.le_refl _) _).alloc (by simp) _).alloc (by simp; omega) _⟩
theorem spTimerOk_any (a b c : Int) (t : Tm) (w : World) :
    Calls Tryz.prog 88 #[.agg #[.int .i64 a, .int .i64 b, .int .i64 c], tmV t] w fun e w' => e = .returned (.bool (timerB a b c t)) ∧ Below w.heap.size w w' :=
  spTimerOk_eight a b c t.st t.wh t.nx t.pe t.pl t.ge t.ki t.ma w

abbrev tmL (t : Tm) : List Int := [t.st, t.wh, t.nx, t.pe, t.pl, t.ge, t.ki, t.ma]
set_option maxRecDepth 100000 in
theorem open_timer {H : Type} {enc : TypeId × Value → H} {W : World} {base : Nat} {sp : Nat → Bool} {hd : Bool} {v : Value} {d : DataW H} {p : List MemPlace}
    (hv : Value.okWide Tryz.prog W .any base 92 v) (h : DataW.Trod enc Tryz.prog W 0 sp hd 92 v d p) :
    ∃ t : Tm, v = tmV t ∧ d = .agg (numsD (tmL t)) ∧ p = [] ∧ ∀ z ∈ tmL t, (Lit.int .i64 z).wf = true := by
  obtain ⟨zs, hl, rfl, rfl, rfl, hw⟩ := open_flat Tryz.underlying92 (I := 2) (by kernel_rfl) Tryz.underlying2 (by kernel_rfl) (by kernel_rfl) hv h
  match zs, hl with
  | [a, b, c, d, e, f, g, k], _ => exact ⟨⟨a, b, c, d, e, f, g, k⟩, rfl, rfl, rfl, hw⟩
set_option maxRecDepth 100000 in
theorem shut_timer {H : Type} {enc : TypeId × Value → H} {t : Tm} (hw : ∀ z ∈ tmL t, (Lit.int .i64 z).wf = true) (W' : World) (n : Nat) (sp : Nat → Bool) (hd : Bool) :
    DataW.Trod enc Tryz.prog W' n sp hd 92 (tmV t) (.agg (numsD (tmL t))) [] :=
  shut_flat (zs := tmL t) Tryz.underlying92 (I := 2) (by kernel_rfl) Tryz.underlying2 (by kernel_rfl) (by kernel_rfl) rfl hw

/-! ### FnExactTimerOk -/
/-! ### FnExactInHeap -/
end Go.Proofs.YtflekodaiejflaaGreat
