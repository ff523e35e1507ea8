/-
  The laws' own helpers on lists of slots: copied out of the law's argument, compared, marked, looked at again.
-/
import Derived.Test.YtnmaljieaflnmaaHeapSpec
import Derived.Laws.MakeOwn
namespace Go.Proofs.Ytnmaljieaflnmaa
open Go.RowKit Go.Joins
set_option linter.unusedVariables false

set_option maxHeartbeats 400000 in
theorem toSlot_any (a b : Int) (w : World) :
    Calls Try.prog 96 #[.agg #[.int .i64 a, .int .i64 b]] w fun e w' => e = .returned (.agg #[.int .i64 a, .int .i64 b]) ∧ Below w.heap.size w w' := by
  go_enter Try.func96, Try.ntmps96
  go_wp2
  exact bodyPost_ret (v := .agg #[.int .i64 a, .int .i64 b]) (by simp [results, Try.results96, go_sem]) rfl ⟨rfl, (((Below.refl _ _).alloc (Nat.le_refl _) _).alloc (by simp) _).alloc (by simp; omega) _⟩

set_option maxHeartbeats 400000 in
theorem eqSlot_same (a b : Int) (w : World) :
    Calls Try.prog 97 #[.agg #[.int .i64 a, .int .i64 b], .agg #[.int .i64 a, .int .i64 b]] w fun e w' => e = .returned (.bool true) ∧ Below w.heap.size w w' := by
  go_enter Try.func97, Try.ntmps97
  go_wp2
  go_ret
  exact ⟨rfl, ((Below.refl _ _).alloc (Nat.le_refl _) _).alloc (by simp) _⟩

set_option maxHeartbeats 400000 in
theorem szSlotS_any {v : Value} {n : Nat} (hv : ∃ a cap, v = .slice a n cap) (left : Int) (w : World) (h0 : 0 ≤ left) (h1 : left ≤ 1048576) (hm : n ≤ maxLen) :
    Calls Try.prog 59 #[v, .int .i64 left] w fun e w' => e = .returned (.int .i64 (if left < (n : Int) then -1 else left - n)) ∧ w = w' := by
  obtain ⟨a, cap, rfl⟩ := hv
  unfold maxLen at hm
  by_cases h : left < (n : Int)
  · rw [if_pos h]
    go_enter Try.func59, Try.ntmps59
    go_wp2
    go_ret
    exact ⟨rfl, rfl⟩
  · rw [if_neg h]
    go_enter Try.func59, Try.ntmps59
    go_wp2
    go_ret
    exact ⟨rfl, rfl⟩

/-! ### copied out of the law's argument -/
theorem made_zero (n i : Nat) (hi : i < n) : (madeCells #[.int .i64 0, .int .i64 0] (n * 2))[i * 2]? = some (.int .i64 0) ∧ (madeCells #[.int .i64 0, .int .i64 0] (n * 2))[i * 2 + 1]? = some (.int .i64 0) := by
  constructor
  · rw [Array.getElem?_eq_getElem (by rw [size_madeCells]; omega)]
    simp [madeCells]
  · rw [Array.getElem?_eq_getElem (by rw [size_madeCells]; omega)]
    simp [madeCells]
theorem own_made (w : World) (n : Nat) (hn : n ≤ maxLen) : OwnAt (w.alloc (.cells (madeCells #[.int .i64 0, .int .i64 0] (n * 2)) 35)) w.heap.size w.heap.size n n (fun _ => (0, 0)) :=
  ⟨Nat.le_refl _, Nat.le_refl _, hn, _, heap_alloc_new w _, size_madeCells _ _, fun i hi => made_zero n i hi⟩

theorem run_make_slots (n : Nat) (hn : n ≤ 1048576) : ∀ w : World, (Instr.makeSlice 26 (.int .i64 (n : Int)) (.int .i64 (n : Int))).run Try.prog w = .ok (.slice (some ⟨w.heap.size, 0, none⟩) n n) (w.alloc (.cells (madeCells #[.int .i64 0, .int .i64 0] (n * 2)) 35)) := by
  intro w
  obtain ⟨i0, hi, hz, hs, hby⟩ := info_parts slot_info
  have hr := run_make (P := Try.prog) w 26 35 i0 _ Try.underlying26 hi hz .i64 .i64 (n : Int) (n : Int) (by omega) (by omega) (by rw [hby]; omega) (by omega)
  rw [hs] at hr
  simp only [Int.toNat_natCast] at hr
  exact hr

def upTo (f : Slots) (k : Nat) : Slots := fun i => if i < k then f i else (0, 0)
theorem upTo_put {f : Slots} {k n : Nat} : ∀ i, i < n → putF (upTo f k) k (f k) i = upTo f (k + 1) i := by
  intro i _
  unfold putF upTo
  by_cases e : i = k
  · subst e; simp
  · rw [if_neg e]
    by_cases h : i < k
    · rw [if_pos h, if_pos (by omega)]
    · rw [if_neg h, if_neg (by omega)]

set_option maxHeartbeats 400000 in
theorem toSlotS_any {v : Value} {n : Nat} {f : Slots} {w : World} (hn : n ≤ 1048576) (h : RowAt w v n f) :
    Calls Try.prog 60 #[v] w (NewRow n f w) := by
  have hmk := run_make_slots n hn
  have hO := own_made w n (by unfold maxLen; omega)
  have hb0 := (Below.refl w.heap.size w).alloc (Nat.le_refl _) (.cells (madeCells #[.int .i64 0, .int .i64 0] (n * 2)) 35)
  rcases h with ⟨h0, a, cap, hv⟩ | ⟨b, off, cap, rfl, hl, hc⟩
  · obtain rfl : v = .slice a n cap := by rw [hv, h0]
    have HO := Lib.hid (hO.congr (f' := f) (fun i hi => by omega))
    have HB := Lib.hid hb0
    have H0 := Lib.hid h0
    clear hO hb0 hv h0
    go_enter Try.func60, Try.ntmps60
    go_wp2
    go_loopw [4] (fun i wr => i = .int .i64 0 ∧ OwnAt wr w.heap.size w.heap.size n n f ∧ Below w.heap.size w wr) (fun _ _ => 0)
    case atStart => exact ⟨rfl, HO.out, HB.out⟩
    case round =>
      obtain ⟨rfl, hOk, hbk⟩ := hrel
      have h1 : ¬ (0 : Int) < (n : Int) := by have := H0.out; omega
      have h2 : ¬ 0 < n := by have := H0.out; omega
      go_wp2
      go_ret
      exact ⟨_, rfl, hOk.own, hbk⟩
  · have H := Lib.hid hc
    have HO := Lib.hid (hO.congr (f' := upTo f 0) (fun i hi => by simp [upTo]))
    have HB := Lib.hid hb0
    clear hc hO hb0
    go_enter Try.func60, Try.ntmps60
    go_wp2
    go_loopw [4] (fun i wr => ∃ k : Nat, k ≤ n ∧ i = .int .i64 k ∧ OwnAt wr w.heap.size w.heap.size n n (upTo f k) ∧ Below w.heap.size w wr) (fun i _ => n - (intOf i).toNat)
    case atStart => exact ⟨0, Nat.zero_le _, rfl, HO.out, HB.out⟩
    case round =>
      obtain ⟨k, hk, rfl, hOk, hbk⟩ := hrel
      by_cases hlt : k < n
      · have c0 := (hbk.cell (p := ⟨b, off + k * 2, none⟩) hl).trans (H.out k hlt).1
        have c1 := (hbk.cell (p := ⟨b, off + k * 2 + 1, none⟩) hl).trans (H.out k hlt).2
        have h1 : (k : Int) < (n : Int) := by omega
        go_wp2_with fail
        go_at_call 96; refine (toSlot_any _ _ _).mono ?_; rintro e w1 ⟨rfl, hb1⟩
        have hO1 := hOk.below hb1
        have hbk1 := btrans hbk hb1
        have fr := hO1.free
        have f0 := fr (k * 2)
        have f1 := fr (k * 2 + 1)
        obtain ⟨d0, d1⟩ := hO1.cells hlt
        clear hb1 fr c0 c1 hOk hbk
        go_wp2
        exact ⟨⟨k + 1, by omega, by go_num, (hO1.put hlt _ _).congr upTo_put, (hbk1.setCell (p := ⟨w.heap.size, k * 2, none⟩) (Nat.le_refl _) _).setCell (p := ⟨w.heap.size, k * 2 + 1, none⟩) (Nat.le_refl _) _⟩, by simp only [intOf]; omega⟩
      · have hkn : k = n := by omega
        subst hkn
        go_wp2
        go_ret
        exact ⟨_, rfl, (hOk.congr (fun i hi => by simp [upTo, hi])).own, hbk⟩

/-! ### compared -/
set_option maxHeartbeats 400000 in
theorem eqSlotS_same {v1 v2 : Value} {n : Nat} {f : Slots} {w : World} (hn : n ≤ 1048576) (h1 : RowAt w v1 n f) (h2 : RowAt w v2 n f) :
    Calls Try.prog 61 #[v1, v2] w fun e w' => e = .returned (.bool true) ∧ Below w.heap.size w w' := by
  by_cases h0 : n = 0
  · obtain ⟨a1, k1, rfl⟩ := h1.form
    obtain ⟨a2, k2, rfl⟩ := h2.form
    have H0 := Lib.hid h0
    clear h0 h1 h2
    go_enter Try.func61, Try.ntmps61
    go_wp2
    go_loop [5] (fun i => i = .int .i64 0) (fun _ => 0)
    case atStart => rfl
    case round =>
      subst hrel
      have h1 : ¬ (0 : Int) < (n : Int) := by have := H0.out; omega
      have h2 : ¬ 0 < n := by have := H0.out; omega
      go_wp2
      go_ret
      exact ⟨rfl, Below.refl _ _⟩
  · rcases h1 with ⟨h1, _⟩ | ⟨b1, o1, c1, rfl, hl1, hc1⟩
    · exact absurd h1 h0
    rcases h2 with ⟨h2, _⟩ | ⟨b2, o2, c2, rfl, hl2, hc2⟩
    · exact absurd h2 h0
    have H1 := Lib.hid hc1
    have H2 := Lib.hid hc2
    clear hc1 hc2 h0
    go_enter Try.func61, Try.ntmps61
    go_wp2
    go_loopw [5] (fun i wr => ∃ k : Nat, k ≤ n ∧ i = .int .i64 k ∧ Below w.heap.size w wr) (fun i _ => n - (intOf i).toNat)
    case atStart => exact ⟨0, Nat.zero_le _, rfl, Below.refl _ _⟩
    case round =>
      obtain ⟨k, hk, rfl, hbk⟩ := hrel
      by_cases hlt : k < n
      · have x0 : wr.drew.cell? ⟨b1, o1 + k * 2, none⟩ = some (.int .i64 (f k).1) := (hbk.cell (p := ⟨b1, o1 + k * 2, none⟩) hl1).trans (H1.out k hlt).1
        have x1 : wr.drew.cell? ⟨b1, o1 + k * 2 + 1, none⟩ = some (.int .i64 (f k).2) := (hbk.cell (p := ⟨b1, o1 + k * 2 + 1, none⟩) hl1).trans (H1.out k hlt).2
        have y0 : wr.drew.cell? ⟨b2, o2 + k * 2, none⟩ = some (.int .i64 (f k).1) := (hbk.cell (p := ⟨b2, o2 + k * 2, none⟩) hl2).trans (H2.out k hlt).1
        have y1 : wr.drew.cell? ⟨b2, o2 + k * 2 + 1, none⟩ = some (.int .i64 (f k).2) := (hbk.cell (p := ⟨b2, o2 + k * 2 + 1, none⟩) hl2).trans (H2.out k hlt).2
        have i1 : (k : Int) < (n : Int) := by omega
        have i0 : (0 : Int) ≤ (k : Int) := by omega
        have kd := hbk.drew
        go_wp2
        go_region_held3 (fun w' => w'.cell? ⟨b1, o1 + k * 2, none⟩ = some (.int .i64 (f k).1) ∧ w'.cell? ⟨b1, o1 + k * 2 + 1, none⟩ = some (.int .i64 (f k).2) ∧ w'.cell? ⟨b2, o2 + k * 2, none⟩ = some (.int .i64 (f k).1) ∧ w'.cell? ⟨b2, o2 + k * 2 + 1, none⟩ = some (.int .i64 (f k).2))
          (first | exact ⟨x0, x1, y0, y1⟩ | go_keep)
          (first
            | (go_at_call 97; refine (eqSlot_same _ _ _).mono ?_; rintro e w1 ⟨rfl, hb1⟩
               replace kd := btrans kd hb1
               replace x0 := (kd.cell (p := ⟨b1, o1 + k * 2, none⟩) hl1).trans (H1.out k hlt).1; replace x1 := (kd.cell (p := ⟨b1, o1 + k * 2 + 1, none⟩) hl1).trans (H1.out k hlt).2
               replace y0 := (kd.cell (p := ⟨b2, o2 + k * 2, none⟩) hl2).trans (H2.out k hlt).1; replace y1 := (kd.cell (p := ⟨b2, o2 + k * 2 + 1, none⟩) hl2).trans (H2.out k hlt).2))
        clear x0 x1 y0 y1
        go_wp2
        exact ⟨⟨k + 1, by omega, by go_num, kd⟩, by simp only [intOf]; omega⟩
      · go_wp2
        go_ret
        exact ⟨rfl, hbk⟩

/-! ### marked, and looked at again -/
def markF (f : Slots) (m : Int) (k : Nat) : Slots := fun i => if i < k then (m + 2 * i, m + 2 * i + 1) else f i
theorem markF_zero (f : Slots) (m : Int) : markF f m 0 = f := by funext i; simp [markF]
theorem markF_put {f : Slots} {m : Int} {k : Nat} (n : Nat) : ∀ i, i < n → putF (markF f m k) k (m + 2 * k, m + 2 * k + 1) i = markF f m (k + 1) i := by
  intro i _
  unfold putF markF
  by_cases e : i = k
  · subst e; simp
  · rw [if_neg e]
    by_cases h : i < k
    · rw [if_pos h, if_pos (by omega)]
    · rw [if_neg h, if_neg (by omega)]

/-- a call that marks a list of the law's own -/
def Marked (B g n cap : Nat) (f : Slots) (m : Int) (w : World) (e : Ending) (w' : World) : Prop :=
  e = .returned (.int .i64 (m + 2 * n)) ∧ OwnAt w' B g n cap (markF f m n) ∧ w.grownBy w' (some g)

set_option maxHeartbeats 400000 in
theorem markSlotS_any {B g n cap : Nat} {f : Slots} {w : World} (m : Int) (hm0 : 0 ≤ m) (hm1 : m ≤ 16777216) (hn : n ≤ 1048576) (h : OwnAt w B g n cap f) :
    Calls Try.prog 107 #[.slice (some ⟨g, 0, none⟩) n cap, .int .i64 m] w (Marked B g n cap f m w) := by
  have H := Lib.hid h
  clear h
  go_enter Try.func107, Try.ntmps107
  go_wp2
  go_loopw [1, 5] (fun q i wr => ∃ k : Nat, k ≤ n ∧ i = .int .i64 k ∧ q = .int .i64 (m + 2 * k) ∧ OwnAt wr B g n cap (markF f m k) ∧ w.grownBy wr (some g)) (fun _ i _ => n - (intOf i).toNat)
  case atStart => exact ⟨0, Nat.zero_le _, rfl, congrArg (Value.int .i64) (by omega), by rw [markF_zero]; exact H.out, g_refl _ _⟩
  case round =>
    obtain ⟨k, hk, rfl, rfl, hOk, hgk⟩ := hrel
    by_cases hlt : k < n
    · have fr := hOk.free
      have f0 := fr (k * 2)
      have f1 := fr (k * 2 + 1)
      obtain ⟨d0, d1⟩ := hOk.cells hlt
      have i1 : (k : Int) < (n : Int) := by omega
      have i2 : (k : Int) ≤ 1048576 := by omega
      clear fr
      go_wp2
      exact ⟨⟨k + 1, by omega, by go_num, congrArg (Value.int .i64) (by omega), (hOk.put hlt _ _).congr (markF_put n), g_own (g_own hgk _ _) _ _⟩, by simp only [intOf]; omega⟩
    · have hkn : k = n := by omega
      subst hkn
      go_wp2
      go_ret
      exact ⟨rfl, hOk, hgk⟩

theorem markF_at (f : Slots) (m : Int) {n k : Nat} (h : k < n) : markF f m n k = (m + 2 * k, m + 2 * k + 1) := by simp [markF, h]

set_option maxHeartbeats 400000 in
theorem heldSlotS_any {v : Value} {n : Nat} {f : Slots} {w : World} (m : Int) (hm0 : 0 ≤ m) (hm1 : m ≤ 16777216) (hn : n ≤ 1048576) (h : RowAt w v n (markF f m n)) :
    Calls Try.prog 108 #[v, .int .i64 m] w fun e w' => e = .returned (.int .i64 (m + 2 * n)) ∧ w = w' := by
  rcases h with ⟨h0, a, cap, hv⟩ | ⟨b, off, cap, rfl, hl, hc⟩
  · obtain rfl : v = .slice a n cap := by rw [hv, h0]
    have H0 := Lib.hid h0
    clear hv h0
    go_enter Try.func108, Try.ntmps108
    go_wp2
    go_loop [1, 5] (fun q i => i = .int .i64 0 ∧ q = .int .i64 m) (fun _ _ => 0)
    case atStart => exact ⟨rfl, rfl⟩
    case round =>
      obtain ⟨rfl, rfl⟩ := hrel
      have h1 : ¬ (0 : Int) < (n : Int) := by have := H0.out; omega
      have h2 : ¬ 0 < n := by have := H0.out; omega
      have h3 : m = m + 2 * (n : Int) := by have := H0.out; omega
      have H3 := Lib.hid h3
      clear h3
      go_wp2
      go_ret
      exact ⟨ret_i64 H3.out, rfl⟩
  · have H := Lib.hid hc
    clear hc
    go_enter Try.func108, Try.ntmps108
    go_wp2
    go_loop [1, 5] (fun q i => ∃ k : Nat, k ≤ n ∧ i = .int .i64 k ∧ q = .int .i64 (m + 2 * k)) (fun _ i => n - (intOf i).toNat)
    case atStart => exact ⟨0, Nat.zero_le _, rfl, congrArg (Value.int .i64) (by omega)⟩
    case round =>
      obtain ⟨k, hk, rfl, rfl⟩ := hrel
      by_cases hlt : k < n
      · obtain ⟨d0, d1⟩ := H.out k hlt
        rw [markF_at f m hlt] at d0 d1
        have i1 : (k : Int) < (n : Int) := by omega
        have i2 : (k : Int) ≤ 1048576 := by omega
        go_wp2
        exact ⟨⟨k + 1, by omega, by go_num, congrArg (Value.int .i64) (by omega)⟩, by simp only [intOf]; omega⟩
      · have hkn : k = n := by omega
        subst hkn
        go_wp2
        go_ret
        exact ⟨rfl, rfl⟩

set_option maxHeartbeats 400000 in
theorem markSlotS_nil (m : Int) (w : World) :
    Calls Try.prog 107 #[.slice none 0 0, .int .i64 m] w fun e w' => e = .returned (.int .i64 m) ∧ w = w' := by
  go_enter Try.func107, Try.ntmps107
  go_wp2
  go_loop [1, 5] (fun q i => i = .int .i64 0 ∧ q = .int .i64 m) (fun _ _ => 0)
  case atStart => exact ⟨rfl, rfl⟩
  case round =>
    obtain ⟨rfl, rfl⟩ := hrel
    go_wp2
    go_ret
    exact ⟨rfl, rfl⟩

/-- any list of the law's own, marked -/
theorem markRow_any {B n : Nat} {v : Value} {f : Slots} {w : World} (m : Int) (hm0 : 0 ≤ m) (hm1 : m ≤ 16777216) (hn : n ≤ 1048576) (h : OwnRow w B v n f) :
    Calls Try.prog 107 #[v, .int .i64 m] w fun e w' => e = .returned (.int .i64 (m + 2 * n)) ∧ OwnRow w' B v n (markF f m n) ∧ w.grownBy w' v.ownBlock := by
  rcases h with ⟨rfl, rfl⟩ | ⟨g, cap, rfl, h⟩
  · refine (markSlotS_nil m w).mono fun e w' ⟨he, hw⟩ => ?_
    subst he; subst hw
    exact ⟨by simp, .inl ⟨rfl, rfl⟩, g_refl _ _⟩
  · refine (markSlotS_any m hm0 hm1 hn h).mono fun e w' ⟨he, ho, hg⟩ => ?_
    exact ⟨he, ho.own, hg⟩

/-! ### rows that lie below a bound, kept from call to call -/
def RowLt (w : World) (C : Nat) (v : Value) (n : Nat) (f : Slots) : Prop :=
  (n = 0 ∧ ∃ a cap, v = .slice a 0 cap) ∨ ∃ b off cap, v = .slice (some ⟨b, off, none⟩) n cap ∧ b < C ∧ 0 < n ∧
    ∀ i, i < n → w.cell? ⟨b, off + i * 2, none⟩ = some (.int .i64 (f i).1) ∧ w.cell? ⟨b, off + i * 2 + 1, none⟩ = some (.int .i64 (f i).2)
theorem RowAt.lt {w : World} {v : Value} {n : Nat} {f : Slots} (h : RowAt w v n f) : RowLt w w.heap.size v n f := by
  rcases Nat.eq_zero_or_pos n with h0 | hp
  · obtain ⟨a, cap, rfl⟩ := h.form
    subst h0
    exact .inl ⟨rfl, a, cap, rfl⟩
  · rcases h with ⟨h0, _⟩ | ⟨b, off, cap, rfl, hl, hc⟩
    · omega
    · exact .inr ⟨b, off, cap, rfl, hl, hp, hc⟩
theorem RowLt.row {w : World} {C n : Nat} {v : Value} {f : Slots} (h : RowLt w C v n f) : RowAt w v n f := by
  rcases h with h | ⟨b, off, cap, rfl, _, hp, hc⟩
  · exact .inl h
  · exact .inr ⟨b, off, cap, rfl, World.block_lt_of_cell? w _ (hc 0 hp).1, hc⟩
theorem RowLt.step {w w' : World} {C n : Nat} {v : Value} {f : Slots} (h : RowLt w C v n f) (hb : Below w.heap.size w w') : RowLt w' C v n f := by
  rcases h with h | ⟨b, off, cap, rfl, hC, hp, hc⟩
  · exact .inl h
  · have hl := World.block_lt_of_cell? w _ (hc 0 hp).1
    exact .inr ⟨b, off, cap, rfl, hC, hp, fun i hi => ⟨(hb.cell (p := ⟨b, off + i * 2, none⟩) hl).trans (hc i hi).1, (hb.cell (p := ⟨b, off + i * 2 + 1, none⟩) hl).trans (hc i hi).2⟩⟩
theorem RowLt.mark {w w' : World} {C C' n : Nat} {v : Value} {f : Slots} (h : RowLt w C v n f) (hb : Below C' w w') (hC' : C ≤ C') : RowLt w' C v n f := by
  rcases h with h | ⟨b, off, cap, rfl, hC, hp, hc⟩
  · exact .inl h
  · have hl := Nat.lt_of_lt_of_le hC hC'
    exact .inr ⟨b, off, cap, rfl, hC, hp, fun i hi => ⟨(hb.cell (p := ⟨b, off + i * 2, none⟩) hl).trans (hc i hi).1, (hb.cell (p := ⟨b, off + i * 2 + 1, none⟩) hl).trans (hc i hi).2⟩⟩
theorem OwnRow.kept {w w' : World} {B n : Nat} {v : Value} {f : Slots} {ob : Option Nat} (h : OwnRow w B v n f) (hg : w.grownBy w' ob) (hne : ∀ g, ob = some g → g < B) : OwnRow w' B v n f := by
  rcases h with h | ⟨g, cap, rfl, h⟩
  · exact .inl h
  · exact .inr ⟨g, cap, rfl, h.block (hg.block g h.lt (by intro e; have := hne g e.symm; have := h.1; omega))⟩
theorem OwnRow.lt_size {w : World} {B n : Nat} {v : Value} {f : Slots} (h : OwnRow w B v n f) : ∀ g, v.ownBlock = some g → g < w.heap.size := by
  intro g e
  rcases h with ⟨_, rfl⟩ | ⟨g', cap, rfl, h⟩
  · simp [Value.ownBlock] at e
  · simp [Value.ownBlock] at e
    subst e
    exact h.lt

end Go.Proofs.Ytnmaljieaflnmaa
