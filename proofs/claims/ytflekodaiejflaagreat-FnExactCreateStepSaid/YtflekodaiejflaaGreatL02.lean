/-
  The laws' own helpers on lists of timers: measured, copied out of the law's argument, compared.
-/
import Derived.Test.YtflekodaiejflaaGreatL01
import Derived.Test.YtflekodaiejflaaGreatL00
import Derived.Laws.MakeOwn
import Derived.BigQuiet
namespace Go.Proofs.YtflekodaiejflaaGreat
open Go.RowKit Go.Joins
set_option linter.unusedVariables false
set_option linter.unusedSimpArgs false

/-- a timer's eight cells in the midst of a list -/
theorem cells8 {w : World} {b o : Nat} {t : Tm} (h : ∀ j, j < 8 → w.cell? ⟨b, o + j, none⟩ = some (.int .i64 (tmAt t j))) :
    w.cell? ⟨b, o, none⟩ = some (.int .i64 t.st) ∧ w.cell? ⟨b, o + 1, none⟩ = some (.int .i64 t.wh) ∧ w.cell? ⟨b, o + 2, none⟩ = some (.int .i64 t.nx) ∧ w.cell? ⟨b, o + 3, none⟩ = some (.int .i64 t.pe) ∧ w.cell? ⟨b, o + 4, none⟩ = some (.int .i64 t.pl) ∧ w.cell? ⟨b, o + 5, none⟩ = some (.int .i64 t.ge) ∧ w.cell? ⟨b, o + 6, none⟩ = some (.int .i64 t.ki) ∧ w.cell? ⟨b, o + 7, none⟩ = some (.int .i64 t.ma) :=
  ⟨h 0 (by decide), h 1 (by decide), h 2 (by decide), h 3 (by decide), h 4 (by decide), h 5 (by decide), h 6 (by decide), h 7 (by decide)⟩

set_option maxHeartbeats 400000 in
theorem szTimerS_is {v : Value} {n : Nat} (hv : ∃ a cap, v = .slice a n cap) (left : Int) (w : World) (h0 : 0 ≤ left) (h1 : left ≤ 1048576) (hm : n ≤ maxLen) :
    Calls Tryz.prog 15 #[v, .int .i64 left] w fun e w' => e = .returned (.int .i64 (if left < (n : Int) then -1 else left - n)) ∧ w = w' := by
  obtain ⟨a, cap, rfl⟩ := hv
  unfold maxLen at hm
  by_cases h : left < (n : Int)
  · rw [if_pos h]
    go_enter Tryz.func15, Tryz.ntmps15
    go_wp2
    go_ret
    exact ⟨rfl, rfl⟩
  · rw [if_neg h]
    go_enter Tryz.func15, Tryz.ntmps15
    go_wp2
    go_ret
    exact ⟨rfl, rfl⟩

set_option maxHeartbeats 1000000 in
theorem eqTimer_same (t : Tm) (w : World) :
    Calls Tryz.prog 56 #[tmV t, tmV t] w fun e w' => e = .returned (.bool true) ∧ Below w.heap.size w w' := by
  go_enter Tryz.func56, Tryz.ntmps56
  go_wp2
  go_ret
  exact ⟨rfl, ((Below.refl _ _).alloc (Nat.le_refl _) _).alloc (by simp) _⟩

/-! ### copied -/
theorem timer_info : (Tryz.prog.info? 90).map (fun i => (i.zero, i.size, i.bytes)) = some (some (.agg #[.int .i64 0, .int .i64 0, .int .i64 0, .int .i64 0, .int .i64 0, .int .i64 0, .int .i64 0, .int .i64 0]), 8, 64) := by kernel_rfl
def tm0 : Tm := ⟨0, 0, 0, 0, 0, 0, 0, 0⟩
theorem madeT_zero (n i j : Nat) (hi : i < n) (hj : j < 8) : (madeCells #[.int .i64 0, .int .i64 0, .int .i64 0, .int .i64 0, .int .i64 0, .int .i64 0, .int .i64 0, .int .i64 0] (n * 8))[i * 8 + j]? = some (.int .i64 (tmAt tm0 j)) := by
  rw [Array.getElem?_eq_getElem (by rw [size_madeCells]; omega)]
  have hm : (i * 8 + j) % 8 = j := by omega
  simp [madeCells, hm]
  revert j
  apply below8 <;> intros <;> rfl
theorem ownT_made (w : World) (n : Nat) (hn : n ≤ maxLen) : OwnTAt (w.alloc (.cells (madeCells #[.int .i64 0, .int .i64 0, .int .i64 0, .int .i64 0, .int .i64 0, .int .i64 0, .int .i64 0, .int .i64 0] (n * 8)) 90)) w.heap.size w.heap.size n n (fun _ => tm0) :=
  ⟨Nat.le_refl _, Nat.le_refl _, hn, _, heap_alloc_new w _, size_madeCells _ _, fun i hi j hj => madeT_zero n i j hi hj⟩
theorem run_make_timers (n : Nat) (hn : n ≤ 1048576) : ∀ w : World, (Instr.makeSlice 33 (.int .i64 (n : Int)) (.int .i64 (n : Int))).run Tryz.prog w = .ok (.slice (some ⟨w.heap.size, 0, none⟩) n n) (w.alloc (.cells (madeCells #[.int .i64 0, .int .i64 0, .int .i64 0, .int .i64 0, .int .i64 0, .int .i64 0, .int .i64 0, .int .i64 0] (n * 8)) 90)) := by
  intro w
  obtain ⟨i0, hi, hz, hs, hby⟩ := info_parts timer_info
  have hr := run_make (P := Tryz.prog) w 33 90 i0 _ Tryz.underlying33 hi hz .i64 .i64 (n : Int) (n : Int) (by omega) (by omega) (by rw [hby]; omega) (by omega)
  rw [hs] at hr
  simp only [Int.toNat_natCast] at hr
  exact hr
def upToT (f : Tms) (k : Nat) : Tms := fun i => if i < k then f i else tm0
theorem upToT_put {f : Tms} {k n : Nat} : ∀ i, i < n → putT (upToT f k) k (f k) i = upToT f (k + 1) i := by
  intro i _
  unfold putT upToT
  by_cases e : i = k
  · subst e; simp
  · rw [if_neg e]
    by_cases h : i < k
    · rw [if_pos h, if_pos (by omega)]
    · rw [if_neg h, if_neg (by omega)]
/-- a call that makes a new list of timers -/
def NewTRow (n : Nat) (f : Tms) (w : World) (e : Ending) (w' : World) : Prop := ∃ v, e = .returned v ∧ OwnTRow w' w.heap.size v n f ∧ Below w.heap.size w w'

set_option maxRecDepth 100000 in
set_option maxHeartbeats 1000000 in
theorem toTimerS_any {v : Value} {n : Nat} {f : Tms} {w : World} (hn : n ≤ 1048576) (h : RowTAt w v n f) :
    Calls Tryz.prog 20 #[v] w (NewTRow n f w) := by
  have hmk := run_make_timers n hn
  have hO := ownT_made w n (by unfold maxLen; omega)
  have hb0 := (Below.refl w.heap.size w).alloc (Nat.le_refl _) (.cells (madeCells #[.int .i64 0, .int .i64 0, .int .i64 0, .int .i64 0, .int .i64 0, .int .i64 0, .int .i64 0, .int .i64 0] (n * 8)) 90)
  rcases h with ⟨h0, a, cap, hv⟩ | ⟨b, off, cap, rfl, hl, hc⟩
  · obtain rfl : v = .slice a n cap := by rw [hv, h0]
    have HO := Lib.hid (hO.congr (f' := f) (fun i hi => by omega))
    have HB := Lib.hid hb0
    have H0 := Lib.hid h0
    clear hO hb0 hv h0
    go_enter Tryz.func20, Tryz.ntmps20
    go_wp2
    go_loopw [4] (fun i wr => i = .int .i64 0 ∧ OwnTAt wr w.heap.size w.heap.size n n f ∧ Below w.heap.size w wr) (fun _ _ => 0)
    case atStart => exact ⟨rfl, HO.out, HB.out⟩
    case round =>
      obtain ⟨rfl, hOk, hbk⟩ := hrel
      have h1 : ¬ (0 : Int) < (n : Int) := by have := H0.out; omega
      have h2 : ¬ 0 < n := by have := H0.out; omega
      go_wp2
      go_ret
      exact ⟨_, rfl, hOk.own, hbk⟩
  · have H := Lib.hid hc
    have HO := Lib.hid (hO.congr (f' := upToT f 0) (fun i hi => by simp [upToT]))
    have HB := Lib.hid hb0
    clear hc hO hb0
    go_enter Tryz.func20, Tryz.ntmps20
    go_wp2
    go_loopw [4] (fun i wr => ∃ k : Nat, k ≤ n ∧ i = .int .i64 k ∧ OwnTAt wr w.heap.size w.heap.size n n (upToT f k) ∧ Below w.heap.size w wr) (fun i _ => n - (intOf i).toNat)
    case atStart => exact ⟨0, Nat.zero_le _, rfl, HO.out, HB.out⟩
    case round =>
      obtain ⟨k, hk, rfl, hOk, hbk⟩ := hrel
      by_cases hlt : k < n
      · obtain ⟨c0, c1, c2, c3, c4, c5, c6, c7⟩ := cells8 (w := wr) (b := b) (o := off + k * 8) (t := f k) (fun j hj => (hbk.cell (p := ⟨b, off + k * 8 + j, none⟩) hl).trans (H.out k hlt j hj))
        have h1 : (k : Int) < (n : Int) := by omega
        go_wp2_with fail
        go_at_call 43; refine (toTimer_any (f k) _).mono ?_; rintro e w1 ⟨rfl, hb1⟩
        have hO1 := hOk.below hb1
        have hbk1 := btrans hbk hb1
        have fr := hO1.free
        have f0 := fr (k * 8); have f1 := fr (k * 8 + 1); have f2 := fr (k * 8 + 2); have f3 := fr (k * 8 + 3); have f4 := fr (k * 8 + 4); have f5 := fr (k * 8 + 5); have f6 := fr (k * 8 + 6); have f7 := fr (k * 8 + 7)
        obtain ⟨d0, d1, d2, d3, d4, d5, d6, d7⟩ := cells8 (w := w1) (b := w.heap.size) (o := k * 8) (t := upToT f k k) (hO1.cells hlt)
        have hOn := (hO1.put hlt (f k)).congr (upToT_put (f := f))
        have kn : Below w.heap.size w (setT w1 w.heap.size k (f k)) := (((((((hbk1.setCell (p := ⟨w.heap.size, k * 8, none⟩) (Nat.le_refl _) _).setCell (p := ⟨w.heap.size, k * 8 + 1, none⟩) (Nat.le_refl _) _).setCell (p := ⟨w.heap.size, k * 8 + 2, none⟩) (Nat.le_refl _) _).setCell (p := ⟨w.heap.size, k * 8 + 3, none⟩) (Nat.le_refl _) _).setCell (p := ⟨w.heap.size, k * 8 + 4, none⟩) (Nat.le_refl _) _).setCell (p := ⟨w.heap.size, k * 8 + 5, none⟩) (Nat.le_refl _) _).setCell (p := ⟨w.heap.size, k * 8 + 6, none⟩) (Nat.le_refl _) _).setCell (p := ⟨w.heap.size, k * 8 + 7, none⟩) (Nat.le_refl _) _
        clear hb1 fr c0 c1 c2 c3 c4 c5 c6 c7 hOk hbk hO1 hbk1
        go_wp2
        exact ⟨⟨k + 1, by omega, by go_num, hOn, kn⟩, by simp only [intOf]; omega⟩
      · have hkn : k = n := by omega
        subst hkn
        go_wp2
        go_ret
        exact ⟨_, rfl, (hOk.congr (fun i hi => by simp [upToT, hi])).own, hbk⟩

end Go.Proofs.YtflekodaiejflaaGreat

/-
  The laws' own helpers on lists of timers, second part: compared, marked, looked at again.
-/
namespace Go.Proofs.YtflekodaiejflaaGreat
open Go.RowKit Go.Joins
set_option linter.unusedVariables false
set_option linter.unusedSimpArgs false

set_option maxRecDepth 100000 in
set_option maxHeartbeats 2000000 in
theorem eqTimerS_same {v1 v2 : Value} {n : Nat} {f : Tms} {w : World} (hn : n ≤ 1048576) (h1 : RowTAt w v1 n f) (h2 : RowTAt w v2 n f) :
    Calls Tryz.prog 27 #[v1, v2] w fun e w' => e = .returned (.bool true) ∧ Below w.heap.size w w' := by
  by_cases h0 : n = 0
  · obtain ⟨a1, k1, rfl⟩ := h1.form
    obtain ⟨a2, k2, rfl⟩ := h2.form
    have H0 := Lib.hid h0
    clear h0 h1 h2
    go_enter Tryz.func27, Tryz.ntmps27
    go_wp2
    go_loop [5] (fun i => i = .int .i64 0) (fun _ => 0)
    case atStart => rfl
    case round =>
      subst hrel
      have h1 : ¬ (0 : Int) < (n : Int) := by have := H0.out; omega
      have h2 : ¬ 0 < n := by have := H0.out; omega
      go_wp2
      go_ret
      exact ⟨rfl, Below.refl _ _⟩
  · rcases h1 with ⟨h1, _⟩ | ⟨b1, o1, c1, rfl, hl1, hc1⟩
    · exact absurd h1 h0
    rcases h2 with ⟨h2, _⟩ | ⟨b2, o2, c2, rfl, hl2, hc2⟩
    · exact absurd h2 h0
    have H1 := Lib.hid hc1
    have H2 := Lib.hid hc2
    clear hc1 hc2 h0
    go_enter Tryz.func27, Tryz.ntmps27
    go_wp2
    go_loopw [5] (fun i wr => ∃ k : Nat, k ≤ n ∧ i = .int .i64 k ∧ Below w.heap.size w wr) (fun i _ => n - (intOf i).toNat)
    case atStart => exact ⟨0, Nat.zero_le _, rfl, Below.refl _ _⟩
    case round =>
      obtain ⟨k, hk, rfl, hbk⟩ := hrel
      by_cases hlt : k < n
      · have far : ∀ wz : World, Below w.heap.size w wz → wz.cell? ⟨b1, o1 + k * 8, none⟩ = some (.int .i64 (f k).st) ∧ wz.cell? ⟨b1, o1 + k * 8 + 1, none⟩ = some (.int .i64 (f k).wh) ∧ wz.cell? ⟨b1, o1 + k * 8 + 2, none⟩ = some (.int .i64 (f k).nx) ∧ wz.cell? ⟨b1, o1 + k * 8 + 3, none⟩ = some (.int .i64 (f k).pe) ∧ wz.cell? ⟨b1, o1 + k * 8 + 4, none⟩ = some (.int .i64 (f k).pl) ∧ wz.cell? ⟨b1, o1 + k * 8 + 5, none⟩ = some (.int .i64 (f k).ge) ∧ wz.cell? ⟨b1, o1 + k * 8 + 6, none⟩ = some (.int .i64 (f k).ki) ∧ wz.cell? ⟨b1, o1 + k * 8 + 7, none⟩ = some (.int .i64 (f k).ma) ∧ wz.cell? ⟨b2, o2 + k * 8, none⟩ = some (.int .i64 (f k).st) ∧ wz.cell? ⟨b2, o2 + k * 8 + 1, none⟩ = some (.int .i64 (f k).wh) ∧ wz.cell? ⟨b2, o2 + k * 8 + 2, none⟩ = some (.int .i64 (f k).nx) ∧ wz.cell? ⟨b2, o2 + k * 8 + 3, none⟩ = some (.int .i64 (f k).pe) ∧ wz.cell? ⟨b2, o2 + k * 8 + 4, none⟩ = some (.int .i64 (f k).pl) ∧ wz.cell? ⟨b2, o2 + k * 8 + 5, none⟩ = some (.int .i64 (f k).ge) ∧ wz.cell? ⟨b2, o2 + k * 8 + 6, none⟩ = some (.int .i64 (f k).ki) ∧ wz.cell? ⟨b2, o2 + k * 8 + 7, none⟩ = some (.int .i64 (f k).ma) := fun wz hz => by
          obtain ⟨x0, x1, x2, x3, x4, x5, x6, x7⟩ := cells8 (w := wz) (b := b1) (o := o1 + k * 8) (t := f k) (fun j hj => (hz.cell (p := ⟨b1, o1 + k * 8 + j, none⟩) hl1).trans (H1.out k hlt j hj))
          obtain ⟨y0, y1, y2, y3, y4, y5, y6, y7⟩ := cells8 (w := wz) (b := b2) (o := o2 + k * 8) (t := f k) (fun j hj => (hz.cell (p := ⟨b2, o2 + k * 8 + j, none⟩) hl2).trans (H2.out k hlt j hj))
          exact ⟨x0, x1, x2, x3, x4, x5, x6, x7, y0, y1, y2, y3, y4, y5, y6, y7⟩
        have FAR := Lib.hid far
        clear far
        have i1 : (k : Int) < (n : Int) := by omega
        have i0 : (0 : Int) ≤ (k : Int) := by omega
        have kd := hbk.drew
        go_wp2
        go_region_held3 (fun w' => w'.cell? ⟨b1, o1 + k * 8, none⟩ = some (.int .i64 (f k).st) ∧ w'.cell? ⟨b1, o1 + k * 8 + 1, none⟩ = some (.int .i64 (f k).wh) ∧ w'.cell? ⟨b1, o1 + k * 8 + 2, none⟩ = some (.int .i64 (f k).nx) ∧ w'.cell? ⟨b1, o1 + k * 8 + 3, none⟩ = some (.int .i64 (f k).pe) ∧ w'.cell? ⟨b1, o1 + k * 8 + 4, none⟩ = some (.int .i64 (f k).pl) ∧ w'.cell? ⟨b1, o1 + k * 8 + 5, none⟩ = some (.int .i64 (f k).ge) ∧ w'.cell? ⟨b1, o1 + k * 8 + 6, none⟩ = some (.int .i64 (f k).ki) ∧ w'.cell? ⟨b1, o1 + k * 8 + 7, none⟩ = some (.int .i64 (f k).ma) ∧ w'.cell? ⟨b2, o2 + k * 8, none⟩ = some (.int .i64 (f k).st) ∧ w'.cell? ⟨b2, o2 + k * 8 + 1, none⟩ = some (.int .i64 (f k).wh) ∧ w'.cell? ⟨b2, o2 + k * 8 + 2, none⟩ = some (.int .i64 (f k).nx) ∧ w'.cell? ⟨b2, o2 + k * 8 + 3, none⟩ = some (.int .i64 (f k).pe) ∧ w'.cell? ⟨b2, o2 + k * 8 + 4, none⟩ = some (.int .i64 (f k).pl) ∧ w'.cell? ⟨b2, o2 + k * 8 + 5, none⟩ = some (.int .i64 (f k).ge) ∧ w'.cell? ⟨b2, o2 + k * 8 + 6, none⟩ = some (.int .i64 (f k).ki) ∧ w'.cell? ⟨b2, o2 + k * 8 + 7, none⟩ = some (.int .i64 (f k).ma))
          (first | exact FAR.out _ kd | go_keep)
          (first
            | (go_at_call 56; refine (eqTimer_same (f k) _).mono ?_; rintro e w1 ⟨rfl, hb1⟩
               replace kd := btrans kd hb1))
        go_wp2
        exact ⟨⟨k + 1, by omega, by go_num, kd⟩, by simp only [intOf]; omega⟩
      · go_wp2
        go_ret
        exact ⟨rfl, hbk⟩

/-! ### marked, and looked at again -/
def markTm (m : Int) : Tm := ⟨m, m + 1, m + 1 + 1, m + 1 + 1 + 1, m + 1 + 1 + 1 + 1, m + 1 + 1 + 1 + 1 + 1, m + 1 + 1 + 1 + 1 + 1 + 1, m + 1 + 1 + 1 + 1 + 1 + 1 + 1⟩
def markT (f : Tms) (m : Int) (k : Nat) : Tms := fun i => if i < k then markTm (m + 8 * i) else f i
theorem markT_zero (f : Tms) (m : Int) : markT f m 0 = f := by funext i; simp [markT]
theorem markT_put {f : Tms} {m : Int} {k : Nat} (n : Nat) : ∀ i, i < n → putT (markT f m k) k (markTm (m + 8 * k)) i = markT f m (k + 1) i := by
  intro i _
  unfold putT markT
  by_cases e : i = k
  · subst e; simp
  · rw [if_neg e]
    by_cases h : i < k
    · rw [if_pos h, if_pos (by omega)]
    · rw [if_neg h, if_neg (by omega)]
theorem markT_at (f : Tms) (m : Int) {n k : Nat} (h : k < n) : markT f m n k = markTm (m + 8 * k) := by simp [markT, h]

/-- a call that marks a list of the law's own -/
def MarkedT (B g n cap : Nat) (f : Tms) (m : Int) (w : World) (e : Ending) (w' : World) : Prop :=
  e = .returned (.int .i64 (m + 8 * n)) ∧ OwnTAt w' B g n cap (markT f m n) ∧ w.grownBy w' (some g)

set_option maxRecDepth 100000 in
set_option maxHeartbeats 2000000 in
theorem markTimerS_any {B g n cap : Nat} {f : Tms} {w : World} (m : Int) (hm0 : 0 ≤ m) (hm1 : m ≤ 16777216) (hn : n ≤ 1048576) (h : OwnTAt w B g n cap f) :
    Calls Tryz.prog 29 #[.slice (some ⟨g, 0, none⟩) n cap, .int .i64 m] w (MarkedT B g n cap f m w) := by
  have H := Lib.hid h
  clear h
  go_enter Tryz.func29, Tryz.ntmps29
  go_wp2
  go_loopw [1, 5] (fun q i wr => ∃ k : Nat, k ≤ n ∧ i = .int .i64 k ∧ q = .int .i64 (m + 8 * k) ∧ OwnTAt wr B g n cap (markT f m k) ∧ w.grownBy wr (some g)) (fun _ i _ => n - (intOf i).toNat)
  case atStart => exact ⟨0, Nat.zero_le _, rfl, congrArg (Value.int .i64) (by omega), by rw [markT_zero]; exact H.out, g_refl _ _⟩
  case round =>
    obtain ⟨k, hk, rfl, rfl, hOk, hgk⟩ := hrel
    by_cases hlt : k < n
    · have fr := hOk.free
      have f0 := fr (k * 8); have f1 := fr (k * 8 + 1); have f2 := fr (k * 8 + 2); have f3 := fr (k * 8 + 3); have f4 := fr (k * 8 + 4); have f5 := fr (k * 8 + 5); have f6 := fr (k * 8 + 6); have f7 := fr (k * 8 + 7)
      obtain ⟨d0, d1, d2, d3, d4, d5, d6, d7⟩ := cells8 (w := wr) (b := g) (o := k * 8) (t := markT f m k k) (hOk.cells hlt)
      have i1 : (k : Int) < (n : Int) := by omega
      have i2 : (k : Int) ≤ 1048576 := by omega
      have hOn := (hOk.put hlt (markTm (m + 8 * k))).congr (markT_put (f := f) (m := m) n)
      have hgn : w.grownBy (setT wr g k (markTm (m + 8 * k))) (some g) := g_own (g_own (g_own (g_own (g_own (g_own (g_own (g_own hgk _ _) _ _) _ _) _ _) _ _) _ _) _ _) _ _
      clear fr hOk hgk
      go_wp2
      exact ⟨⟨k + 1, by omega, by go_num, congrArg (Value.int .i64) (by omega), hOn, hgn⟩, by simp only [intOf]; omega⟩
    · have hkn : k = n := by omega
      subst hkn
      go_wp2
      go_ret
      exact ⟨rfl, hOk, hgk⟩

set_option maxRecDepth 100000 in
set_option maxHeartbeats 2000000 in
theorem heldTimerS_any {v : Value} {n : Nat} {f : Tms} {w : World} (m : Int) (hm0 : 0 ≤ m) (hm1 : m ≤ 16777216) (hn : n ≤ 1048576) (h : RowTAt w v n (markT f m n)) :
    Calls Tryz.prog 59 #[v, .int .i64 m] w fun e w' => e = .returned (.int .i64 (m + 8 * n)) ∧ w = w' := by
  rcases h with ⟨h0, a, cap, hv⟩ | ⟨b, off, cap, rfl, hl, hc⟩
  · obtain rfl : v = .slice a n cap := by rw [hv, h0]
    have H0 := Lib.hid h0
    clear hv h0
    go_enter Tryz.func59, Tryz.ntmps59
    go_wp2
    go_loop [1, 5] (fun q i => i = .int .i64 0 ∧ q = .int .i64 m) (fun _ _ => 0)
    case atStart => exact ⟨rfl, rfl⟩
    case round =>
      obtain ⟨rfl, rfl⟩ := hrel
      have h1 : ¬ (0 : Int) < (n : Int) := by have := H0.out; omega
      have h2 : ¬ 0 < n := by have := H0.out; omega
      have h3 : m = m + 8 * (n : Int) := by have := H0.out; omega
      have H3 := Lib.hid h3
      clear h3
      go_wp2
      go_ret
      exact ⟨ret_i64 H3.out, rfl⟩
  · have H := Lib.hid hc
    clear hc
    go_enter Tryz.func59, Tryz.ntmps59
    go_wp2
    go_loop [1, 5] (fun q i => ∃ k : Nat, k ≤ n ∧ i = .int .i64 k ∧ q = .int .i64 (m + 8 * k)) (fun _ i => n - (intOf i).toNat)
    case atStart => exact ⟨0, Nat.zero_le _, rfl, congrArg (Value.int .i64) (by omega)⟩
    case round =>
      obtain ⟨k, hk, rfl, rfl⟩ := hrel
      by_cases hlt : k < n
      · obtain ⟨d0, d1, d2, d3, d4, d5, d6, d7⟩ := cells8 (w := w) (b := b) (o := off + k * 8) (t := ⟨m + 8 * k, m + 8 * k + 1, m + 8 * k + 1 + 1, m + 8 * k + 1 + 1 + 1, m + 8 * k + 1 + 1 + 1 + 1, m + 8 * k + 1 + 1 + 1 + 1 + 1, m + 8 * k + 1 + 1 + 1 + 1 + 1 + 1, m + 8 * k + 1 + 1 + 1 + 1 + 1 + 1 + 1⟩) (fun j hj => (H.out k hlt j hj).trans (by rw [markT_at f m hlt]; rfl))
        have i1 : (k : Int) < (n : Int) := by omega
        have i2 : (k : Int) ≤ 1048576 := by omega
        go_wp2
        exact ⟨⟨k + 1, by omega, by go_num, congrArg (Value.int .i64) (by omega)⟩, by simp only [intOf]; omega⟩
      · have hkn : k = n := by omega
        subst hkn
        go_wp2
        go_ret
        exact ⟨rfl, rfl⟩

end Go.Proofs.YtflekodaiejflaaGreat

/-
  A memory: its clock, its timers, its processors: read in a range of blocks, or made by the call itself.
-/
namespace Go.Proofs.YtflekodaiejflaaGreat
open Go.RowKit Go.Joins
set_option linter.unusedVariables false
set_option linter.unusedSimpArgs false

structure Me where
  c : Int
  tn : Nat
  t : Tms
  pn : Nat
  p : Pcs
abbrev meV (c : Int) (tv pv : Value) : Value := .agg #[.int .i64 c, tv, pv]
/-- how much the laws count of it -/
def sizeM (M : Me) : Nat := M.tn + (M.pn + slotsP M.p M.pn)
theorem sizeM_le {M : Me} (h : sizeM M ≤ 1048576) : M.tn ≤ 1048576 ∧ M.pn ≤ 1048576 ∧ slotsP M.p M.pn ≤ 1048576 ∧ ∀ i, i < M.pn → (M.p i).n ≤ 1048576 := by
  unfold sizeM at h
  exact ⟨by omega, by omega, by omega, fun i hi => by have := slotsP_le M.p hi; omega⟩

/-- the blocks from B on and before C are as they were -/
def Same (B C : Nat) (w w' : World) : Prop := ∀ k, B ≤ k → k < C → w'.heap[k]? = w.heap[k]?
theorem Same.of_below {B C n : Nat} {w w' : World} (h : Below n w w') (hC : C ≤ n) : Same B C w w' := fun k _ hk => h.block k (by omega)
theorem Same.of_mid_lo {B C D E : Nat} {w w' : World} (h : Mid D E w w') (hC : C ≤ D) (hw : C ≤ w.heap.size) : Same B C w w' := fun k _ hk => h.block k (by omega) (.inl (by omega))
theorem Same.of_mid_hi {B C D E : Nat} {w w' : World} (h : Mid D E w w') (hB : E ≤ B) (hw : C ≤ w.heap.size) : Same B C w w' := fun k h1 hk => h.block k (by omega) (.inr (by omega))
theorem Same.trans {B C : Nat} {a b c : World} (h : Same B C a b) (k : Same B C b c) : Same B C a c := fun i h1 h2 => (k i h1 h2).trans (h i h1 h2)
theorem Same.cell {B C : Nat} {w w' : World} (h : Same B C w w') {b : Nat} (h1 : B ≤ b) (h2 : b < C) (o : Nat) : w'.cell? ⟨b, o, none⟩ = w.cell? ⟨b, o, none⟩ := by
  unfold World.cell?
  rw [h b h1 h2]

/-! ### read in a range -/
def RowR (w : World) (B C : Nat) (v : Value) (n : Nat) (f : Slots) : Prop :=
  (n = 0 ∧ ∃ a cap, v = .slice a 0 cap) ∨ ∃ b off cap, v = .slice (some ⟨b, off, none⟩) n cap ∧ B ≤ b ∧ b < C ∧
    ∀ i, i < n → w.cell? ⟨b, off + i * 2, none⟩ = some (.int .i64 (f i).1) ∧ w.cell? ⟨b, off + i * 2 + 1, none⟩ = some (.int .i64 (f i).2)
theorem RowAt.range {w : World} {v : Value} {n : Nat} {f : Slots} (h : RowAt w v n f) : RowR w 0 w.heap.size v n f := by
  rcases h with h | ⟨b, off, cap, e, hl, hc⟩
  · exact .inl h
  · exact .inr ⟨b, off, cap, e, Nat.zero_le _, hl, hc⟩
theorem RowR.row {w : World} {B C n : Nat} {v : Value} {f : Slots} (h : RowR w B C v n f) (hC : C ≤ w.heap.size) : RowAt w v n f := by
  rcases h with h | ⟨b, off, cap, e, _, hl, hc⟩
  · exact .inl h
  · exact .inr ⟨b, off, cap, e, by omega, hc⟩
theorem RowR.keep {w w' : World} {B C n : Nat} {v : Value} {f : Slots} (h : RowR w B C v n f) (hs : Same B C w w') : RowR w' B C v n f := by
  rcases h with h | ⟨b, off, cap, e, h1, h2, hc⟩
  · exact .inl h
  · exact .inr ⟨b, off, cap, e, h1, h2, fun i hi => ⟨(hs.cell h1 h2 _).trans (hc i hi).1, (hs.cell h1 h2 _).trans (hc i hi).2⟩⟩
theorem OwnRow.range {w : World} {B n : Nat} {v : Value} {f : Slots} (h : OwnRow w B v n f) : RowR w B w.heap.size v n f := by
  rcases h with ⟨rfl, rfl⟩ | ⟨g, cap, rfl, h⟩
  · exact .inl ⟨rfl, _, _, rfl⟩
  · exact .inr ⟨g, 0, cap, rfl, h.1, h.lt, fun i hi => by simpa using h.cells hi⟩

def RowTR (w : World) (B C : Nat) (v : Value) (n : Nat) (f : Tms) : Prop :=
  (n = 0 ∧ ∃ a cap, v = .slice a 0 cap) ∨ ∃ b off cap, v = .slice (some ⟨b, off, none⟩) n cap ∧ B ≤ b ∧ b < C ∧
    ∀ i, i < n → ∀ j, j < 8 → w.cell? ⟨b, off + i * 8 + j, none⟩ = some (.int .i64 (tmAt (f i) j))
theorem RowTAt.range {w : World} {v : Value} {n : Nat} {f : Tms} (h : RowTAt w v n f) : RowTR w 0 w.heap.size v n f := by
  rcases h with h | ⟨b, off, cap, e, hl, hc⟩
  · exact .inl h
  · exact .inr ⟨b, off, cap, e, Nat.zero_le _, hl, hc⟩
theorem RowTR.row {w : World} {B C n : Nat} {v : Value} {f : Tms} (h : RowTR w B C v n f) (hC : C ≤ w.heap.size) : RowTAt w v n f := by
  rcases h with h | ⟨b, off, cap, e, _, hl, hc⟩
  · exact .inl h
  · exact .inr ⟨b, off, cap, e, by omega, hc⟩
theorem RowTR.keep {w w' : World} {B C n : Nat} {v : Value} {f : Tms} (h : RowTR w B C v n f) (hs : Same B C w w') : RowTR w' B C v n f := by
  rcases h with h | ⟨b, off, cap, e, h1, h2, hc⟩
  · exact .inl h
  · exact .inr ⟨b, off, cap, e, h1, h2, fun i hi j hj => (hs.cell h1 h2 _).trans (hc i hi j hj)⟩
theorem OwnTRow.range {w : World} {B n : Nat} {v : Value} {f : Tms} (h : OwnTRow w B v n f) : RowTR w B w.heap.size v n f := by
  rcases h with ⟨rfl, rfl⟩ | ⟨g, cap, rfl, h⟩
  · exact .inl ⟨rfl, _, _, rfl⟩
  · exact .inr ⟨g, 0, cap, rfl, h.1, h.lt, fun i hi j hj => by simpa using h.cells hi j hj⟩

def PcR (w : World) (B C b o : Nat) (p : Pc) : Prop :=
  ∃ a cap, w.cell? ⟨b, o, none⟩ = some (.slice a p.n cap) ∧ w.cell? ⟨b, o + 1, none⟩ = some (.int .i64 p.l) ∧ w.cell? ⟨b, o + 2, none⟩ = some (.int .i64 p.e) ∧ w.cell? ⟨b, o + 3, none⟩ = some (.int .i64 p.d) ∧ RowR w B C (.slice a p.n cap) p.n p.f
def RowPR (w : World) (B C : Nat) (v : Value) (m : Nat) (P : Pcs) : Prop :=
  (m = 0 ∧ ∃ a cap, v = .slice a 0 cap) ∨ ∃ b off cap, v = .slice (some ⟨b, off, none⟩) m cap ∧ B ≤ b ∧ b < C ∧ ∀ i, i < m → PcR w B C b (off + i * 4) (P i)
theorem RowPAt.range {w : World} {v : Value} {m : Nat} {P : Pcs} (h : RowPAt w v m P) : RowPR w 0 w.heap.size v m P := by
  rcases h with h | ⟨b, off, cap, e, hl, hc⟩
  · exact .inl h
  · exact .inr ⟨b, off, cap, e, Nat.zero_le _, hl, fun i hi => by
      obtain ⟨a, c, h0, h1, h2, h3, hr⟩ := hc i hi
      exact ⟨a, c, h0, h1, h2, h3, hr.range⟩⟩
theorem RowPR.row {w : World} {B C m : Nat} {v : Value} {P : Pcs} (h : RowPR w B C v m P) (hC : C ≤ w.heap.size) : RowPAt w v m P := by
  rcases h with h | ⟨b, off, cap, e, _, hl, hc⟩
  · exact .inl h
  · exact .inr ⟨b, off, cap, e, by omega, fun i hi => by
      obtain ⟨a, c, h0, h1, h2, h3, hr⟩ := hc i hi
      exact ⟨a, c, h0, h1, h2, h3, hr.row hC⟩⟩
theorem RowPR.keep {w w' : World} {B C m : Nat} {v : Value} {P : Pcs} (h : RowPR w B C v m P) (hs : Same B C w w') : RowPR w' B C v m P := by
  rcases h with h | ⟨b, off, cap, e, h1, h2, hc⟩
  · exact .inl h
  · exact .inr ⟨b, off, cap, e, h1, h2, fun i hi => by
      obtain ⟨a, c, x0, x1, x2, x3, hr⟩ := hc i hi
      exact ⟨a, c, (hs.cell h1 h2 _).trans x0, (hs.cell h1 h2 _).trans x1, (hs.cell h1 h2 _).trans x2, (hs.cell h1 h2 _).trans x3, hr.keep hs⟩⟩
theorem OwnPRow.range {w : World} {B m : Nat} {v : Value} {P : Pcs} (h : OwnPRow w B v m P) : RowPR w B w.heap.size v m P := by
  rcases h with ⟨rfl, rfl⟩ | ⟨g, cap, V, rfl, h⟩
  · exact .inl ⟨rfl, _, _, rfl⟩
  · exact .inr ⟨g, 0, cap, rfl, h.1.1, h.1.lt, fun i hi => by
      obtain ⟨h0, h1, h2, h3⟩ := h.1.cells hi
      have ho := h.2.1 i hi
      obtain ⟨a, c, e⟩ := ho.value
      rw [e] at h0 ho
      exact ⟨a, c, by simpa using h0, by simpa using h1, by simpa using h2, by simpa using h3, ho.range⟩⟩

/-! ### a memory -/
def MemR (w : World) (B C : Nat) (tv pv : Value) (M : Me) : Prop := RowTR w B C tv M.tn M.t ∧ RowPR w B C pv M.pn M.p
def MemAt (w : World) (tv pv : Value) (M : Me) : Prop := RowTAt w tv M.tn M.t ∧ RowPAt w pv M.pn M.p
def OwnMem (w : World) (B : Nat) (tv pv : Value) (M : Me) : Prop := OwnTRow w B tv M.tn M.t ∧ OwnPRow w B pv M.pn M.p
theorem MemAt.range {w : World} {tv pv : Value} {M : Me} (h : MemAt w tv pv M) : MemR w 0 w.heap.size tv pv M := ⟨h.1.range, h.2.range⟩
theorem MemAt.below {w w' : World} {tv pv : Value} {M : Me} (h : MemAt w tv pv M) (hb : Below w.heap.size w w') : MemAt w' tv pv M := ⟨h.1.below hb, h.2.below hb⟩
theorem MemR.at {w : World} {B C : Nat} {tv pv : Value} {M : Me} (h : MemR w B C tv pv M) (hC : C ≤ w.heap.size) : MemAt w tv pv M := ⟨h.1.row hC, h.2.row hC⟩
theorem MemR.keep {w w' : World} {B C : Nat} {tv pv : Value} {M : Me} (h : MemR w B C tv pv M) (hs : Same B C w w') : MemR w' B C tv pv M := ⟨h.1.keep hs, h.2.keep hs⟩
theorem OwnMem.range {w : World} {B : Nat} {tv pv : Value} {M : Me} (h : OwnMem w B tv pv M) : MemR w B w.heap.size tv pv M := ⟨h.1.range, h.2.range⟩
theorem OwnMem.at {w : World} {B : Nat} {tv pv : Value} {M : Me} (h : OwnMem w B tv pv M) : MemAt w tv pv M := ⟨h.1.row, h.2.row⟩
theorem OwnMem.below {w w' : World} {B : Nat} {tv pv : Value} {M : Me} (h : OwnMem w B tv pv M) (hb : Below w.heap.size w w') : OwnMem w' B tv pv M := ⟨h.1.below hb, h.2.below hb⟩
theorem MemAt.form {w : World} {tv pv : Value} {M : Me} (h : MemAt w tv pv M) : ∃ a cap b cap', tv = .slice a M.tn cap ∧ pv = .slice b M.pn cap' := by
  obtain ⟨a, c, e⟩ := h.1.form
  obtain ⟨b, c', e'⟩ := h.2.form
  exact ⟨a, c, b, c', e, e'⟩

/-! ### its own, before a bound: to be marked -/
def OwnTIn (w : World) (B C : Nat) (v : Value) (n : Nat) (f : Tms) : Prop := (n = 0 ∧ v = .slice none 0 0) ∨ ∃ g cap, v = .slice (some ⟨g, 0, none⟩) n cap ∧ OwnTAt w B g n cap f ∧ g < C
def OwnPIn (w : World) (B C : Nat) (v : Value) (m : Nat) (P : Pcs) : Prop :=
  (m = 0 ∧ v = .slice none 0 0) ∨ ∃ g cap V, v = .slice (some ⟨g, 0, none⟩) m cap ∧ OwnPAt w B g m cap P V ∧ g < C ∧ ∀ i, i < m → ∀ x, (V i).ownBlock = some x → x < C
def OwnMemIn (w : World) (B C : Nat) (tv pv : Value) (M : Me) : Prop := OwnTIn w B C tv M.tn M.t ∧ OwnPIn w B C pv M.pn M.p
theorem OwnMem.inn {w : World} {B : Nat} {tv pv : Value} {M : Me} (h : OwnMem w B tv pv M) : OwnMemIn w B w.heap.size tv pv M := by
  refine ⟨?_, ?_⟩
  · rcases h.1 with h | ⟨g, cap, e, h⟩
    · exact .inl h
    · exact .inr ⟨g, cap, e, h, h.lt⟩
  · rcases h.2 with h | ⟨g, cap, V, e, h⟩
    · exact .inl h
    · exact .inr ⟨g, cap, V, e, h, h.1.lt, fun i hi => (h.2.1 i hi).lt_size⟩
theorem OwnTIn.keep {w w' : World} {B C n : Nat} {v : Value} {f : Tms} (h : OwnTIn w B C v n f) (hs : Same B C w w') : OwnTIn w' B C v n f := by
  rcases h with h | ⟨g, cap, e, h, hg⟩
  · exact .inl h
  · exact .inr ⟨g, cap, e, h.block (hs g h.1 hg), hg⟩
theorem OwnPIn.keep {w w' : World} {B C m : Nat} {v : Value} {P : Pcs} (h : OwnPIn w B C v m P) (hs : Same B C w w') : OwnPIn w' B C v m P := by
  rcases h with h | ⟨g, cap, V, e, ⟨hl, hh⟩, hg, hV⟩
  · exact .inl h
  · refine .inr ⟨g, cap, V, e, ⟨hl.block (hs g hl.1 hg), hh.other (fun i hi x hx => hs x ?_ (hV i hi x hx))⟩, hg, hV⟩
    rcases hh.1 i hi with ⟨_, ev⟩ | ⟨y, c, ev, ho⟩
    · rw [ev] at hx; simp [Value.ownBlock] at hx
    · rw [ev] at hx; simp [Value.ownBlock] at hx; subst hx; exact ho.1
theorem OwnMemIn.keep {w w' : World} {B C : Nat} {tv pv : Value} {M : Me} (h : OwnMemIn w B C tv pv M) (hs : Same B C w w') : OwnMemIn w' B C tv pv M := ⟨h.1.keep hs, h.2.keep hs⟩
theorem OwnTIn.range {w : World} {B C n : Nat} {v : Value} {f : Tms} (h : OwnTIn w B C v n f) : RowTR w B C v n f := by
  rcases h with ⟨rfl, rfl⟩ | ⟨g, cap, rfl, h, hg⟩
  · exact .inl ⟨rfl, _, _, rfl⟩
  · exact .inr ⟨g, 0, cap, rfl, h.1, hg, fun i hi j hj => by simpa using h.cells hi j hj⟩
theorem OwnPIn.range {w : World} {B C m : Nat} {v : Value} {P : Pcs} (h : OwnPIn w B C v m P) : RowPR w B C v m P := by
  rcases h with ⟨rfl, rfl⟩ | ⟨g, cap, V, rfl, h, hg, hV⟩
  · exact .inl ⟨rfl, _, _, rfl⟩
  · exact .inr ⟨g, 0, cap, rfl, h.1.1, hg, fun i hi => by
      obtain ⟨h0, h1, h2, h3⟩ := h.1.cells hi
      have ho := h.2.1 i hi
      have hx := hV i hi
      rcases ho with ⟨hn, ev⟩ | ⟨x, c, ev, ho⟩
      · rw [ev] at h0
        exact ⟨none, 0, by rw [hn]; simpa using h0, by simpa using h1, by simpa using h2, by simpa using h3, .inl ⟨hn, none, 0, by rw [hn]⟩⟩
      · rw [ev] at h0 hx
        exact ⟨_, c, by simpa using h0, by simpa using h1, by simpa using h2, by simpa using h3, .inr ⟨x, 0, c, rfl, ho.1, hx x rfl, fun j hj => by simpa using ho.cells hj⟩⟩⟩
theorem OwnMemIn.range {w : World} {B C : Nat} {tv pv : Value} {M : Me} (h : OwnMemIn w B C tv pv M) : MemR w B C tv pv M := ⟨h.1.range, h.2.range⟩

end Go.Proofs.YtflekodaiejflaaGreat

/-
  The laws' own helpers on a memory: measured, copied out of the law's argument, compared, marked, looked at again.
-/
namespace Go.Proofs.YtflekodaiejflaaGreat
open Go.RowKit Go.Joins
set_option linter.unusedVariables false
set_option linter.unusedSimpArgs false

set_option maxRecDepth 100000 in
set_option maxHeartbeats 1000000 in
theorem szMem_ok {tv pv : Value} {M : Me} {w : World} (h : MemAt w tv pv M) (left : Int) (h1 : left ≤ 1048576) (hle : (sizeM M : Nat) ≤ left) :
    Calls Tryz.prog 4 #[meV M.c tv pv, .int .i64 left] w fun e w' => e = .returned (.int .i64 (left - (sizeM M : Nat))) ∧ Below w.heap.size w w' := by
  obtain ⟨a, cap, b, cap', rfl, rfl⟩ := h.form
  have k0 := (Below.refl w.heap.size w).alloc (Nat.le_refl _) (.cells #[.int .i64 M.c, .slice a M.tn cap, .slice b M.pn cap'] 27)
  have hsz : (sizeM M : Int) = (M.tn : Int) + ((M.pn : Int) + (slotsP M.p M.pn : Nat)) := by unfold sizeM; omega
  obtain ⟨y, hy⟩ : ∃ y : Int, y = left - (M.tn : Int) := ⟨_, rfl⟩
  obtain ⟨z, hz⟩ : ∃ z : Int, z = y - (M.pn : Int) - (slotsP M.p M.pn : Nat) := ⟨_, rfl⟩
  have hv1 : ∃ a' c', (Value.slice a M.tn cap) = .slice a' M.tn c' := ⟨_, _, rfl⟩
  have ST := fun W : World => szTimerS_is hv1 left W (by omega) h1 (by unfold maxLen; omega)
  simp only [if_neg (show ¬ left < (M.tn : Int) by omega), ← hy] at ST
  have SP := szProcS_ok (h.below k0).2 y (by omega) (by omega)
  rw [← hz] at SP
  rw [show left - (sizeM M : Nat) = z by omega]
  have d0 : decide (y < 0) = false := by simp; omega
  have d1 : decide (z < 0) = false := by simp; omega
  have HST := Lib.hid ST
  have HSP := Lib.hid SP
  clear ST SP hy hz hsz hle h1 hv1 h
  go_enter Tryz.func4, Tryz.ntmps4
  go_wp2_with fail
  go_at_call 15; refine (HST.out _).mono ?_; rintro x w1 ⟨rfl, rfl⟩
  go_wp2_with fail
  go_at_call 16; refine HSP.out.mono ?_; rintro x w2 ⟨rfl, hb⟩
  go_wp2
  go_ret
  exact ⟨rfl, k0.trans (hb.mono k0.size)⟩

set_option maxRecDepth 100000 in
set_option maxHeartbeats 1000000 in
theorem szMem_big {tv pv : Value} {M : Me} {w : World} (h : MemAt w tv pv M) (htn : M.tn ≤ maxLen) (hpn : M.pn ≤ maxLen) (hn : ∀ i, i < M.pn → (M.p i).n ≤ maxLen) (left : Int) (h0 : 0 ≤ left) (h1 : left ≤ 1048576) (hle : left < (sizeM M : Nat)) :
    Calls Tryz.prog 4 #[meV M.c tv pv, .int .i64 left] w fun e w' => e = .returned (.int .i64 (-1)) ∧ Below w.heap.size w w' := by
  obtain ⟨a, cap, b, cap', rfl, rfl⟩ := h.form
  have k0 := (Below.refl w.heap.size w).alloc (Nat.le_refl _) (.cells #[.int .i64 M.c, .slice a M.tn cap, .slice b M.pn cap'] 27)
  have hsz : (sizeM M : Int) = (M.tn : Int) + ((M.pn : Int) + (slotsP M.p M.pn : Nat)) := by unfold sizeM; omega
  have hv1 : ∃ a' c', (Value.slice a M.tn cap) = .slice a' M.tn c' := ⟨_, _, rfl⟩
  have ST := fun W : World => szTimerS_is hv1 left W h0 h1 htn
  by_cases hb : left < (M.tn : Int)
  · simp only [if_pos hb] at ST
    have HST := Lib.hid ST
    clear ST hv1 h hsz
    go_enter Tryz.func4, Tryz.ntmps4
    go_wp2_with fail
    go_at_call 15; refine (HST.out _).mono ?_; rintro x w1 ⟨rfl, rfl⟩
    go_wp2
    go_ret
    exact ⟨rfl, k0⟩
  · obtain ⟨y, hy⟩ : ∃ y : Int, y = left - (M.tn : Int) := ⟨_, rfl⟩
    simp only [if_neg hb, ← hy] at ST
    have SP := szProcS_big (h.below k0).2 hpn hn y (by omega) (by omega) (by omega)
    have d0 : decide (y < 0) = false := by simp; omega
    have HST := Lib.hid ST
    have HSP := Lib.hid SP
    clear ST SP hy hsz hle h1 hv1 h hn
    go_enter Tryz.func4, Tryz.ntmps4
    go_wp2_with fail
    go_at_call 15; refine (HST.out _).mono ?_; rintro x w1 ⟨rfl, rfl⟩
    go_wp2_with fail
    go_at_call 16; refine HSP.out.mono ?_; rintro x w2 ⟨rfl, hb⟩
    go_wp2
    go_ret
    exact ⟨rfl, k0.trans (hb.mono k0.size)⟩

/-- a call that makes a new memory -/
def NewMe (M : Me) (w : World) (e : Ending) (w' : World) : Prop := ∃ tv pv, e = .returned (meV M.c tv pv) ∧ OwnMem w' w.heap.size tv pv M ∧ Below w.heap.size w w'
theorem OwnTRow.kept1 {w w' : World} {B n : Nat} {v : Value} {f : Tms} (h : OwnTRow w B v n f) (e : ∀ g, B ≤ g → g < w.heap.size → w'.heap[g]? = w.heap[g]?) : OwnTRow w' B v n f := by
  rcases h with h | ⟨g, cap, ev, h⟩
  · exact .inl h
  · exact .inr ⟨g, cap, ev, h.block (e g h.1 h.lt)⟩
theorem OwnPRow.kept1 {w w' : World} {B m : Nat} {v : Value} {P : Pcs} (h : OwnPRow w B v m P) (e : ∀ g, B ≤ g → g < w.heap.size → w'.heap[g]? = w.heap[g]?) : OwnPRow w' B v m P := by
  rcases h with h | ⟨g, cap, V, ev, hl, hh⟩
  · exact .inl h
  · refine .inr ⟨g, cap, V, ev, hl.block (e g hl.1 hl.lt), hh.other (fun i hi x hx => e x ?_ ((hh.1 i hi).lt_size x hx))⟩
    rcases hh.1 i hi with ⟨_, ev⟩ | ⟨y, c, ev, ho⟩
    · rw [ev] at hx; simp [Value.ownBlock] at hx
    · rw [ev] at hx; simp [Value.ownBlock] at hx; subst hx; exact ho.1
theorem OwnMem.kept1 {w w' : World} {B : Nat} {tv pv : Value} {M : Me} (h : OwnMem w B tv pv M) (e : ∀ g, B ≤ g → g < w.heap.size → w'.heap[g]? = w.heap[g]?) : OwnMem w' B tv pv M := ⟨h.1.kept1 e, h.2.kept1 e⟩
theorem OwnTRow.mono' {w : World} {B B' n : Nat} {v : Value} {f : Tms} (h : OwnTRow w B v n f) (hB : B' ≤ B) : OwnTRow w B' v n f := h.mono hB
theorem OwnMem.mono {w : World} {B B' : Nat} {tv pv : Value} {M : Me} (h : OwnMem w B tv pv M) (hB : B' ≤ B) : OwnMem w B' tv pv M := ⟨h.1.mono hB, h.2.mono hB⟩

abbrev memO (c : Int) (tv pv : Value) (t : TypeId) : Obj := .cells #[.int .i64 c, tv, pv] t
set_option maxRecDepth 100000 in
set_option maxHeartbeats 2000000 in
theorem toMem_any {tv pv : Value} {M : Me} {w : World} (hs : sizeM M ≤ 1048576) (h : MemAt w tv pv M) :
    Calls Tryz.prog 7 #[meV M.c tv pv] w (NewMe M w) := by
  obtain ⟨htn, hpn, hsl, hn⟩ := sizeM_le hs
  obtain ⟨a, cap, b, cap', rfl, rfl⟩ := h.form
  have k0 := (Below.refl w.heap.size w).alloc (Nat.le_refl _) (memO M.c (.slice a M.tn cap) (.slice b M.pn cap') 27)
  have e1 : (w.alloc (memO M.c (.slice a M.tn cap) (.slice b M.pn cap') 27)).heap.size = w.heap.size + 1 := by simp
  have k1 := k0.alloc (by omega) (memO 0 (.slice none 0 0) (.slice none 0 0) 36)
  have e2 : ((w.alloc (memO M.c (.slice a M.tn cap) (.slice b M.pn cap') 27)).alloc (memO 0 (.slice none 0 0) (.slice none 0 0) 36)).heap.size = w.heap.size + 1 + 1 := by simp
  have k2 := k1.alloc (by omega) (memO 0 (.slice none 0 0) (.slice none 0 0) 36)
  have e3 : (((w.alloc (memO M.c (.slice a M.tn cap) (.slice b M.pn cap') 27)).alloc (memO 0 (.slice none 0 0) (.slice none 0 0) 36)).alloc (memO 0 (.slice none 0 0) (.slice none 0 0) 36)).heap.size = w.heap.size + 1 + 1 + 1 := by simp
  have hA := alloc_block (memO 0 (.slice none 0 0) (.slice none 0 0) 36) (alloc_block (memO 0 (.slice none 0 0) (.slice none 0 0) 36) (heap_alloc_new w (memO M.c (.slice a M.tn cap) (.slice b M.pn cap') 27)))
  have hR := alloc_block (memO 0 (.slice none 0 0) (.slice none 0 0) 36) (heap_alloc_new (w.alloc (memO M.c (.slice a M.tn cap) (.slice b M.pn cap') 27)) (memO 0 (.slice none 0 0) (.slice none 0 0) 36))
  rw [e1] at hR
  have hX := heap_alloc_new ((w.alloc (memO M.c (.slice a M.tn cap) (.slice b M.pn cap') 27)).alloc (memO 0 (.slice none 0 0) (.slice none 0 0) 36)) (memO 0 (.slice none 0 0) (.slice none 0 0) 36)
  rw [e2] at hX
  generalize hW3 : ((w.alloc (memO M.c (.slice a M.tn cap) (.slice b M.pn cap') 27)).alloc (memO 0 (.slice none 0 0) (.slice none 0 0) 36)).alloc (memO 0 (.slice none 0 0) (.slice none 0 0) 36) = W3 at k2 e3 hA hR hX
  have HM0 := Lib.hid h
  -- the clock is stored
  have hX1 : (W3.setCell ⟨w.heap.size + 1 + 1, 0, none⟩ (.int .i64 M.c)).heap[w.heap.size + 1 + 1]? = some (memO M.c (.slice none 0 0) (.slice none 0 0) 36) := block_setCell (i := 0) hX _
  have hA1 : (W3.setCell ⟨w.heap.size + 1 + 1, 0, none⟩ (.int .i64 M.c)).heap[w.heap.size]? = _ := (Below.heap_setCell W3 ⟨w.heap.size + 1 + 1, 0, none⟩ _ w.heap.size (show w.heap.size ≠ w.heap.size + 1 + 1 by omega)).trans hA
  have hR1 : (W3.setCell ⟨w.heap.size + 1 + 1, 0, none⟩ (.int .i64 M.c)).heap[w.heap.size + 1]? = _ := (Below.heap_setCell W3 ⟨w.heap.size + 1 + 1, 0, none⟩ _ (w.heap.size + 1) (show w.heap.size + 1 ≠ w.heap.size + 1 + 1 by omega)).trans hR
  have k3 : Below w.heap.size w (W3.setCell ⟨w.heap.size + 1 + 1, 0, none⟩ (.int .i64 M.c)) := k2.setCell (p := ⟨w.heap.size + 1 + 1, 0, none⟩) (show w.heap.size ≤ w.heap.size + 1 + 1 by omega) _
  have e4 : (W3.setCell ⟨w.heap.size + 1 + 1, 0, none⟩ (.int .i64 M.c)).heap.size = w.heap.size + 1 + 1 + 1 := by simp [e3]
  obtain ⟨x0, x1, x2, xf0, xf1, xf2⟩ := three hX
  obtain ⟨a0, a1, a2, _, _, _⟩ := three hA
  clear k0 k1 k2 e1 e2 hA hR hX h
  go_enter Tryz.func7, Tryz.ntmps7
  go_wp2_with fail
  clear hW3
  clear x0 x1 x2 xf0 xf1 xf2 a0 a1 a2 e3
  generalize (W3.setCell ⟨w.heap.size + 1 + 1, 0, none⟩ (.int .i64 M.c)) = W4 at hX1 hA1 hR1 k3 e4 ⊢
  go_at_call 20; refine (toTimerS_any htn (HM0.out.below k3).1).mono ?_; rintro x w1 ⟨u, rfl, hT, hb⟩
  have k4 := k3.trans (hb.mono (by omega))
  have hX2 := b_block hb hX1 (by omega)
  have hA2 := b_block hb hA1 (by omega)
  have hR2 := b_block hb hR1 (by omega)
  have hs1 := hb.size
  rw [e4] at hT hs1
  obtain ⟨ua, uc, hu⟩ := hT.row.form
  subst hu
  have hX3 : (w1.setCell ⟨w.heap.size + 1 + 1, 1, none⟩ (.slice ua M.tn uc)).heap[w.heap.size + 1 + 1]? = some (memO M.c (.slice ua M.tn uc) (.slice none 0 0) 36) := block_setCell (i := 1) hX2 _
  have hA3 : (w1.setCell ⟨w.heap.size + 1 + 1, 1, none⟩ (.slice ua M.tn uc)).heap[w.heap.size]? = _ := (Below.heap_setCell w1 ⟨w.heap.size + 1 + 1, 1, none⟩ _ w.heap.size (show w.heap.size ≠ w.heap.size + 1 + 1 by omega)).trans hA2
  have hR3 : (w1.setCell ⟨w.heap.size + 1 + 1, 1, none⟩ (.slice ua M.tn uc)).heap[w.heap.size + 1]? = _ := (Below.heap_setCell w1 ⟨w.heap.size + 1 + 1, 1, none⟩ _ (w.heap.size + 1) (show w.heap.size + 1 ≠ w.heap.size + 1 + 1 by omega)).trans hR2
  have k5 : Below w.heap.size w (w1.setCell ⟨w.heap.size + 1 + 1, 1, none⟩ (.slice ua M.tn uc)) := k4.setCell (p := ⟨w.heap.size + 1 + 1, 1, none⟩) (show w.heap.size ≤ w.heap.size + 1 + 1 by omega) _
  have hT3 : OwnTRow (w1.setCell ⟨w.heap.size + 1 + 1, 1, none⟩ (.slice ua M.tn uc)) (w.heap.size + 1 + 1 + 1) (.slice ua M.tn uc) M.tn M.t := hT.set (b := w.heap.size + 1 + 1) (by omega) 1 _
  have e5 : (w1.setCell ⟨w.heap.size + 1 + 1, 1, none⟩ (.slice ua M.tn uc)).heap.size = w1.heap.size := by simp
  obtain ⟨x0, x1, x2, xf0, xf1, xf2⟩ := three hX2
  obtain ⟨a0, a1, a2, _, _, _⟩ := three hA2
  clear hb hX1 hA1 hR1 hX2 hA2 hR2 k3 k4 hT e4
  go_wp2_with fail
  clear x0 x1 x2 xf0 xf1 xf2 a0 a1 a2
  generalize (w1.setCell ⟨w.heap.size + 1 + 1, 1, none⟩ (.slice ua M.tn uc)) = W5 at hX3 hA3 hR3 k5 hT3 e5 ⊢
  go_at_call 21; refine (toProcS_any hpn hn (HM0.out.below k5).2).mono ?_; rintro x w2 ⟨y, rfl, hP, hb⟩
  have k6 := k5.trans (hb.mono (by omega))
  have hX4 := b_block hb hX3 (by omega)
  have hR4 := b_block hb hR3 (by omega)
  have hT4 := hT3.below hb
  replace hP := hP.mono (B' := w.heap.size + 1 + 1 + 1) (by omega)
  obtain ⟨ya, yc, hy⟩ := hP.row.form
  subst hy
  have hTF : OwnTRow ((((w2.setCell ⟨w.heap.size + 1 + 1, 2, none⟩ (.slice ya M.pn yc)).setCell ⟨w.heap.size + 1, 0, none⟩ (.int .i64 M.c)).setCell ⟨w.heap.size + 1, 1, none⟩ (.slice ua M.tn uc)).setCell ⟨w.heap.size + 1, 2, none⟩ (.slice ya M.pn yc)) (w.heap.size + 1 + 1 + 1) (.slice ua M.tn uc) M.tn M.t := (((hT4.set (b := w.heap.size + 1 + 1) (by omega) 2 _).set (b := w.heap.size + 1) (by omega) 0 _).set (b := w.heap.size + 1) (by omega) 1 _).set (b := w.heap.size + 1) (by omega) 2 _
  have hPF : OwnPRow ((((w2.setCell ⟨w.heap.size + 1 + 1, 2, none⟩ (.slice ya M.pn yc)).setCell ⟨w.heap.size + 1, 0, none⟩ (.int .i64 M.c)).setCell ⟨w.heap.size + 1, 1, none⟩ (.slice ua M.tn uc)).setCell ⟨w.heap.size + 1, 2, none⟩ (.slice ya M.pn yc)) (w.heap.size + 1 + 1 + 1) (.slice ya M.pn yc) M.pn M.p := hP.kept1 (fun g h1 _ =>
    (Below.heap_setCell (((w2.setCell ⟨w.heap.size + 1 + 1, 2, none⟩ (.slice ya M.pn yc)).setCell ⟨w.heap.size + 1, 0, none⟩ (.int .i64 M.c)).setCell ⟨w.heap.size + 1, 1, none⟩ (.slice ua M.tn uc)) ⟨w.heap.size + 1, 2, none⟩ _ g (show g ≠ w.heap.size + 1 by omega)).trans ((Below.heap_setCell ((w2.setCell ⟨w.heap.size + 1 + 1, 2, none⟩ (.slice ya M.pn yc)).setCell ⟨w.heap.size + 1, 0, none⟩ (.int .i64 M.c)) ⟨w.heap.size + 1, 1, none⟩ _ g (show g ≠ w.heap.size + 1 by omega)).trans ((Below.heap_setCell (w2.setCell ⟨w.heap.size + 1 + 1, 2, none⟩ (.slice ya M.pn yc)) ⟨w.heap.size + 1, 0, none⟩ _ g (show g ≠ w.heap.size + 1 by omega)).trans (Below.heap_setCell w2 ⟨w.heap.size + 1 + 1, 2, none⟩ _ g (show g ≠ w.heap.size + 1 + 1 by omega)))))
  have kF : Below w.heap.size w ((((w2.setCell ⟨w.heap.size + 1 + 1, 2, none⟩ (.slice ya M.pn yc)).setCell ⟨w.heap.size + 1, 0, none⟩ (.int .i64 M.c)).setCell ⟨w.heap.size + 1, 1, none⟩ (.slice ua M.tn uc)).setCell ⟨w.heap.size + 1, 2, none⟩ (.slice ya M.pn yc)) := (((k6.setCell (p := ⟨w.heap.size + 1 + 1, 2, none⟩) (show w.heap.size ≤ w.heap.size + 1 + 1 by omega) _).setCell (p := ⟨w.heap.size + 1, 0, none⟩) (show w.heap.size ≤ w.heap.size + 1 by omega) _).setCell (p := ⟨w.heap.size + 1, 1, none⟩) (show w.heap.size ≤ w.heap.size + 1 by omega) _).setCell (p := ⟨w.heap.size + 1, 2, none⟩) (show w.heap.size ≤ w.heap.size + 1 by omega) _
  obtain ⟨x0, x1, x2, xf0, xf1, xf2⟩ := three hX4
  obtain ⟨r0, r1, r2, rf0, rf1, rf2⟩ := three hR4
  clear hb hX3 hA3 hR3 hX4 hR4 k5 k6 hT3 hT4 hP e5
  go_wp2
  exact bodyPost_ret (v := meV M.c (.slice ua M.tn uc) (.slice ya M.pn yc)) (by simp [results, Tryz.results7, go_sem, r0, r1, r2]) rfl ⟨_, _, rfl, ⟨hTF.mono (by omega), hPF.mono (by omega)⟩, kF⟩

set_option maxRecDepth 100000 in
set_option maxHeartbeats 1000000 in
theorem eqMem_same {tv1 pv1 tv2 pv2 : Value} {M : Me} {w : World} (hs : sizeM M ≤ 1048576) (h1 : MemAt w tv1 pv1 M) (h2 : MemAt w tv2 pv2 M) :
    Calls Tryz.prog 11 #[meV M.c tv1 pv1, meV M.c tv2 pv2] w fun x w' => x = .returned (.bool true) ∧ Below w.heap.size w w' := by
  obtain ⟨htn, hpn, hsl, hn⟩ := sizeM_le hs
  obtain ⟨a1, c1, b1, d1, rfl, rfl⟩ := h1.form
  obtain ⟨a2, c2, b2, d2, rfl, rfl⟩ := h2.form
  have k0 := ((Below.refl w.heap.size w).alloc (Nat.le_refl _) (memO M.c (.slice a1 M.tn c1) (.slice b1 M.pn d1) 36)).alloc (by simp) (memO M.c (.slice a2 M.tn c2) (.slice b2 M.pn d2) 36)
  have R1 := h1.below k0
  have R2 := h2.below k0
  have H1 := Lib.hid R1
  have H2 := Lib.hid R2
  clear h1 h2 R1 R2
  go_enter Tryz.func11, Tryz.ntmps11
  go_wp2_with fail
  go_at_call 27; refine (eqTimerS_same htn H1.out.1 H2.out.1).mono ?_; rintro x w1 ⟨rfl, hb⟩
  obtain ⟨hc, hf⟩ := bcell hb
  have k1 := k0.trans (hb.mono k0.size)
  have P1 := H1.out.2.below hb
  have P2 := H2.out.2.below hb
  have HP1 := Lib.hid P1
  have HP2 := Lib.hid P2
  clear P1 P2
  go_wp2_with fail
  go_at_call 28; refine (eqProcS_same hpn hn HP1.out HP2.out).mono ?_; rintro x w2 ⟨rfl, hb2⟩
  have k2 := k1.trans (hb2.mono k1.size)
  clear hb hb2 hc hf
  go_wp2
  go_ret
  exact ⟨rfl, k2⟩

/-! ### marked, and looked at again -/
def markMe (M : Me) (q : Int) : Me := ⟨M.c, M.tn, markT M.t q M.tn, M.pn, markP M.p (q + 8 * (M.tn : Int)) M.pn⟩
def markEnd (M : Me) (q : Int) : Int := markAt M.p (q + 8 * (M.tn : Int)) M.pn
theorem markEnd_le {M : Me} {q : Int} (h : sizeM M ≤ 1048576) (h1 : q ≤ 4194304) : markEnd M q ≤ 16777216 := by
  unfold markEnd markAt
  unfold sizeM at h
  omega
theorem markEnd_ge {M : Me} {q : Int} : q ≤ markEnd M q := by
  unfold markEnd markAt
  omega

set_option maxHeartbeats 400000 in
theorem markTimerS_nil (m : Int) (w : World) :
    Calls Tryz.prog 29 #[.slice none 0 0, .int .i64 m] w fun e w' => e = .returned (.int .i64 m) ∧ w = w' := by
  go_enter Tryz.func29, Tryz.ntmps29
  go_wp2
  go_loop [1, 5] (fun q i => i = .int .i64 0 ∧ q = .int .i64 m) (fun _ _ => 0)
  case atStart => exact ⟨rfl, rfl⟩
  case round =>
    obtain ⟨rfl, rfl⟩ := hrel
    go_wp2
    go_ret
    exact ⟨rfl, rfl⟩
theorem markTRow_any {B C n : Nat} {v : Value} {f : Tms} {w : World} (m : Int) (hm0 : 0 ≤ m) (hm1 : m ≤ 16777216) (hn : n ≤ 1048576) (h : OwnTIn w B C v n f) :
    Calls Tryz.prog 29 #[v, .int .i64 m] w fun e w' => e = .returned (.int .i64 (m + 8 * n)) ∧ OwnTIn w' B C v n (markT f m n) ∧ Mid B C w w' ∧ KeepsBut [90] w w' := by
  rcases h with ⟨rfl, rfl⟩ | ⟨g, cap, rfl, h, hg⟩
  · refine (markTimerS_nil m w).mono fun e w' ⟨he, hw⟩ => ?_
    subst he; subst hw
    exact ⟨by simp, .inl ⟨rfl, rfl⟩, Mid.refl _ _ _, KeepsBut.refl _ _⟩
  · have hB := h.1
    obtain ⟨_, _, _, cur, hh, _⟩ := id h
    refine (markTimerS_any m hm0 hm1 hn h).mono fun e w' ⟨he, ho, hgr⟩ => ?_
    exact ⟨he, .inr ⟨g, cap, rfl, ho, hg⟩, Mid.of_grown hgr (fun x hx => by injection hx with hx; omega), KeepsBut.of_grown hgr (fun x hx => by injection hx with hx; subst hx; exact ⟨cur, _, hh, by decide⟩)⟩
theorem markPRow_any {B C m : Nat} {v : Value} {P : Pcs} {w : World} (q : Int) (hq0 : 0 ≤ q) (hq1 : q + 2 * (slotsP P m : Nat) + 3 * (m : Int) ≤ 16777216) (hn : ∀ i, i < m → (P i).n ≤ 1048576) (hm : m ≤ 1048576) (h : OwnPIn w B C v m P) :
    Calls Tryz.prog 30 #[v, .int .i64 q] w fun e w' => e = .returned (.int .i64 (markAt P q m)) ∧ OwnPIn w' B C v m (markP P q m) ∧ Mid B C w w' ∧ KeepsBut [87, 133] w w' := by
  rcases h with ⟨rfl, rfl⟩ | ⟨g, cap, V, rfl, h, hg, hV⟩
  · refine (markProcS_nil q w).mono fun e w' ⟨he, hw⟩ => ?_
    subst he; subst hw
    exact ⟨by simp [markAt, slotsP], .inl ⟨rfl, rfl⟩, Mid.refl _ _ _, KeepsBut.refl _ _⟩
  · refine (markProcS_any q hq0 hq1 hn hm h.1 h.2 hg hV).mono fun e w' ⟨he, hl, hh, hm, hk⟩ => ?_
    exact ⟨he, .inr ⟨g, cap, V, rfl, ⟨hl, hh⟩, hg, hV⟩, hm, hk⟩
theorem OwnTIn.keeps {w w' : World} {B C n : Nat} {v : Value} {f : Tms} {T : List TypeId} (h : OwnTIn w B C v n f) (hk : KeepsBut T w w') (ht : 90 ∉ T) : OwnTIn w' B C v n f := by
  rcases h with h | ⟨g, cap, e, h, hg⟩
  · exact .inl h
  · obtain ⟨_, _, _, cur, hh, _⟩ := id h
    exact .inr ⟨g, cap, e, h.block (hk g cur _ hh ht), hg⟩
theorem OwnPIn.keeps {w w' : World} {B C m : Nat} {v : Value} {P : Pcs} {T : List TypeId} (h : OwnPIn w B C v m P) (hk : KeepsBut T w w') (h1 : 87 ∉ T) (h2 : 133 ∉ T) : OwnPIn w' B C v m P := by
  rcases h with h | ⟨g, cap, V, e, ⟨hl, hh⟩, hg, hV⟩
  · exact .inl h
  · obtain ⟨cs, hcs⟩ := hl.typed
    refine .inr ⟨g, cap, V, e, ⟨hl.block (hk g cs _ hcs h1), hh.other (fun i hi x hx => ?_)⟩, hg, hV⟩
    rcases hh.1 i hi with ⟨_, ev⟩ | ⟨y, c, ev, ho⟩
    · rw [ev] at hx; simp [Value.ownBlock] at hx
    · rw [ev] at hx; simp [Value.ownBlock] at hx; subst hx
      obtain ⟨_, _, _, cur, hc, _⟩ := ho
      exact hk y cur _ hc h2

set_option maxRecDepth 100000 in
set_option maxHeartbeats 1000000 in
theorem markMem_any {B C : Nat} {tv pv : Value} {M : Me} {w : World} (q : Int) (hq0 : 0 ≤ q) (hq1 : q ≤ 4194304) (hs : sizeM M ≤ 1048576) (h : OwnMemIn w B C tv pv M) (hC : C ≤ w.heap.size) :
    Calls Tryz.prog 12 #[meV M.c tv pv, .int .i64 q] w fun x w' => x = .returned (.int .i64 (markEnd M q)) ∧ OwnMemIn w' B C tv pv (markMe M q) ∧ Mid B C w w' := by
  obtain ⟨htn, hpn, hsl, hn⟩ := sizeM_le hs
  have hat := h.range.at hC
  obtain ⟨a, c1, b, c2, rfl, rfl⟩ := hat.form
  have k0 := (Below.refl w.heap.size w).alloc (Nat.le_refl _) (memO M.c (.slice a M.tn c1) (.slice b M.pn c2) 36)
  have hq2 : (q + 8 * (M.tn : Int)) + 2 * (slotsP M.p M.pn : Nat) + 3 * (M.pn : Int) ≤ 16777216 := by unfold sizeM at hs; omega
  have h0 := h.keep (Same.of_below k0 hC)
  have hAv := heap_alloc_new w (memO M.c (.slice a M.tn c1) (.slice b M.pn c2) 36)
  have M0 : Mid B C w (w.alloc (memO M.c (.slice a M.tn c1) (.slice b M.pn c2) 36)) := Mid.of_below k0
  have H0 := Lib.hid h0
  obtain ⟨a0, a1, a2, _, _, _⟩ := three hAv
  clear h h0 hat hs hsl
  go_enter Tryz.func12, Tryz.ntmps12
  go_wp2_with fail
  go_at_call 29; refine (markTRow_any q hq0 (by omega) htn H0.out.1).mono ?_; rintro x w1 ⟨rfl, hT1, hM1, hK1⟩
  have hP1 := H0.out.2.keeps hK1 (by decide) (by decide)
  have hA1 : w1.heap[w.heap.size]? = _ := (hK1 w.heap.size _ _ hAv (by decide)).trans hAv
  have M1 := M0.trans hM1
  clear a0 a1 a2 hAv hK1 hM1 M0
  obtain ⟨a0, a1, a2, _, _, _⟩ := three hA1
  go_wp2_with fail
  go_at_call 30; refine (markPRow_any (q + 8 * (M.tn : Int)) (by omega) hq2 hn hpn hP1).mono ?_; rintro x w2 ⟨rfl, hP2, hM2, hK2⟩
  have hT2 := hT1.keeps hK2 (by decide)
  have M2 := M1.trans hM2
  clear a0 a1 a2 hA1 hK2 hM2 M1 hT1 hP1 hq2
  go_wp2
  go_ret
  exact ⟨rfl, ⟨hT2, hP2⟩, M2⟩

set_option maxRecDepth 100000 in
set_option maxHeartbeats 1000000 in
theorem heldMem_any {tv pv : Value} {M : Me} {w : World} (q : Int) (hq0 : 0 ≤ q) (hq1 : q ≤ 4194304) (hs : sizeM M ≤ 1048576) (h : MemAt w tv pv (markMe M q)) :
    Calls Tryz.prog 31 #[meV M.c tv pv, .int .i64 q] w fun x w' => x = .returned (.int .i64 (markEnd M q)) ∧ Below w.heap.size w w' := by
  obtain ⟨htn, hpn, hsl, hn⟩ := sizeM_le hs
  obtain ⟨a, c1, b, c2, rfl, rfl⟩ : ∃ a cap b cap', tv = .slice a M.tn cap ∧ pv = .slice b M.pn cap' := h.form
  have k0 := (Below.refl w.heap.size w).alloc (Nat.le_refl _) (memO M.c (.slice a M.tn c1) (.slice b M.pn c2) 36)
  have hq2 : (q + 8 * (M.tn : Int)) + 2 * (slotsP M.p M.pn : Nat) + 3 * (M.pn : Int) ≤ 16777216 := by unfold sizeM at hs; omega
  have h0 := h.below k0
  have d0 : decide (q + 8 * (M.tn : Int) < 0) = false := by simp; omega
  have d1 : decide (markEnd M q < 0) = false := by have := @markEnd_ge M q; simp; omega
  have HT := Lib.hid (heldTimerS_any q hq0 (by omega) htn h0.1)
  have HP := Lib.hid (heldProcS_any (q + 8 * (M.tn : Int)) (by omega) hq2 hn hpn h0.2)
  clear h h0 hs hsl
  go_enter Tryz.func31, Tryz.ntmps31
  go_wp2_with fail
  go_at_call 59; refine HT.out.mono ?_; rintro x w1 ⟨rfl, rfl⟩
  go_wp2_with fail
  go_at_call 60; refine HP.out.mono ?_; rintro x w1 ⟨rfl, rfl⟩
  unfold markEnd at d1
  go_wp2
  go_ret
  exact ⟨rfl, k0⟩

end Go.Proofs.YtflekodaiejflaaGreat

/-
  A region that draws its order, with guards that say no and calls that make memory: one walk in the order of the text, in a class of worlds of one's own.
-/
namespace Go.Proofs.YtflekodaiejflaaGreat
open Go.RowKit Go.Joins
set_option linter.unusedVariables false
set_option linter.unusedSimpArgs false

theorem region_quietC {P : Program} {C : World → Prop} {id : Nat} {Q : Exit → Act → World → Prop} {a : Act} {w : World} {l : List Oper} (hm : P.follows .mixedOrders = true) (hB : Region.lexB .any l.toArray = true) (hC : C w.drew)
    (h : wpQuiet P l.toArray C (fun a' => ∀ w', C w' → Q .normal a' w') l a) : (Code.region id l.toArray true).wp P Q a w :=
  wp_region_quiet (C := C) hm hB hC (by simpa using h)
theorem quiet_take {P : Program} {ops : Array Oper} {C : World → Prop} {Q : Act → Prop} {a : Act} {o : Oper} {rest : List Oper} {v : Value} (hw : Region.wanted o (yielded ops a.tmps) = true) (hv : ∀ w, C w → o.quietAt P a C w v)
    (h : wpQuiet P ops C Q rest (a.put o.dst v)) : wpQuiet P ops C Q (o :: rest) a :=
  BigFrame.wpQuiet_want hw (fun K hK => ⟨v, hv, hK _ h⟩)

end Go.Proofs.YtflekodaiejflaaGreat
