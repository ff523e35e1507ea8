/-
  The draws, second part: a cursor made new; the draws of the chapter on plans; the dice.
-/
import Derived.Test.YtihekcmcdcenaaaDraw
import Derived.LoopTactic
namespace Go.Proofs.Ytihekcmcdcenaaa
open Go.RowKit Go.Joins
set_option linter.unusedVariables false

/-- a cursor made new: one new block -/
def NewCur (sl : Value) (w : World) (e : Ending) (w' : World) : Prop :=
  ∃ h : Int, e = .returned (.pointer (some ⟨w.heap.size, 0, none⟩)) ∧ w' = w.alloc (.cells #[sl, .int .i64 0, .int .i64 h] 57)

set_option maxHeartbeats 400000 in
theorem l1New_some (b off len cap : Nat) (zs : List Int) (w : World) (hlen : len ≤ 4096) (hcell : ∀ k, k < len → w.cell? ⟨b, off + k, none⟩ = some (.int .u8 (zs.getD k 0))) :
    Calls Try.prog 19 #[.slice (some ⟨b, off, none⟩) len cap] w (NewCur (.slice (some ⟨b, off, none⟩) len cap) w) := by
  have H := Lib.hid hcell
  clear hcell
  go_enter Try.func19, Try.ntmps19
  go_wp2
  go_loop [3, 4] (fun h i => ∃ (k : Nat) (x : Int), k ≤ len ∧ i = .int .i64 k ∧ h = .int .i64 x) (fun _ i => len - (intOf i).toNat)
  case atStart => exact ⟨0, _, Nat.zero_le _, rfl, rfl⟩
  case round =>
    obtain ⟨k, x, hk, rfl, rfl⟩ := hrel
    by_cases hlt : k < len
    · have hc := H.out k hlt
      go_wp2
      go_round
      case rel => exact ⟨k + 1, _, by omega, by go_num, rfl⟩
      case measure => simp [intOf]; omega
    · go_wp2
      go_ret
      exact ⟨_, rfl, rfl⟩

set_option maxHeartbeats 400000 in
theorem l1New_none (a : Option Addr) (cap : Nat) (w : World) :
    Calls Try.prog 19 #[.slice a 0 cap] w (NewCur (.slice a 0 cap) w) := by
  go_enter Try.func19, Try.ntmps19
  go_wp2
  go_loop [3, 4] (fun h i => i = .int .i64 0 ∧ ∃ x : Int, h = .int .i64 x) (fun _ i => 0)
  case atStart => exact ⟨rfl, _, rfl⟩
  case round =>
    obtain ⟨rfl, x, rfl⟩ := hrel
    go_wp2
    go_ret
    exact ⟨_, rfl, rfl⟩

theorem l1New_any {B len : Nat} {sl : Value} {w : World} (n : Nat) (hn : n = w.heap.size) (hlen : len ≤ 4096) (hcode : CodeAt w B sl len) (hB : B ≤ n) :
    Calls Try.prog 19 #[sl] w fun e w' => e = .returned (.pointer (some ⟨n, 0, none⟩)) ∧ CurAt w' B n sl len ∧ Below n w w' := by
  subst hn
  have core : Calls Try.prog 19 #[sl] w (NewCur sl w) := by
    rcases hcode with ⟨rfl, a, cap, rfl⟩ | ⟨b, off, cap, zs, rfl, h2, h3, h4, h5⟩
    · exact l1New_none a cap w
    · exact l1New_some b off len cap zs w hlen h4
  refine core.mono fun e w' he => ?_
  obtain ⟨h, rfl, rfl⟩ := he
  exact ⟨rfl, ⟨hB, hlen, hcode.kept (World.grownBy_alloc w _ (some w.heap.size)) hB, 0, h, Nat.zero_le _, heap_alloc_new w _⟩, (Below.refl _ _).alloc (Nat.le_refl _) _⟩

set_option maxHeartbeats 400000 in
theorem drawAfter_any {B len : Nat} {sl : Value} {w : World} (hlen : len ≤ 4096) (hcode : CodeAt w B sl len) (hB : B ≤ w.heap.size) :
    Calls Try.prog 9 #[sl] w fun e w' => ∃ t d : Int, e = .returned (.tuple #[.int .i64 t, .int .i64 d]) ∧ Below w.heap.size w w' := by
  go_enter Try.func9, Try.ntmps9
  go_wp2_with fail
  go_at_call 19; refine (l1New_any _ rfl hlen hcode hB).mono ?_; rintro e w1 ⟨rfl, hC1, hb1⟩
  go_wp2_with fail
  go_at_call 22; refine (l1Once_any _ (by omega) (by omega) hC1).mono ?_; rintro e w2 ⟨q, rfl, hC2, hg2⟩
  have hb2 := hb1.trans (b_grown hg2 (Nat.le_refl _) hb1.size)
  clear hb1 hg2
  cases q
  · go_wp2_with fail
    go_at_call 24; refine (l1Num_any _ (by omega) (by omega) hC2).mono ?_; rintro e w3 ⟨x, _, _, rfl, hC3, hg3⟩
    have hb3 := hb2.trans (b_grown hg3 (Nat.le_refl _) hb2.size)
    clear hb2 hg3
    go_wp2_with fail
    go_at_call 24; refine (l1Num_any _ (by omega) (by omega) hC3).mono ?_; rintro e w4 ⟨y, _, _, rfl, hC4, hg4⟩
    have hb4 := hb3.trans (b_grown hg4 (Nat.le_refl _) hb3.size)
    clear hb3 hg4
    go_wp2
    go_ret2
    exact ⟨x, y, rfl, hb4⟩
  · go_wp2_with fail
    go_at_call 23; refine (l1Below_any _ (by omega) (by omega) hC2).mono ?_; rintro e w3 ⟨x, _, _, rfl, hC3, hg3⟩
    have hb3 := hb2.trans (b_grown hg3 (Nat.le_refl _) hb2.size)
    clear hb2 hg3
    go_wp2_with fail
    go_at_call 21; refine (l1From_any _ _ (by omega) (by omega) (by omega) hC3).mono ?_; rintro e w4 ⟨y, _, _, rfl, hC4, hg4⟩
    have hb4 := hb3.trans (b_grown hg4 (Nat.le_refl _) hb3.size)
    clear hb3 hg4
    go_wp2
    go_ret2
    exact ⟨x, y, rfl, hb4⟩

set_option maxHeartbeats 400000 in
theorem drawHomeOf_any {B len : Nat} {sl : Value} {w : World} (hlen : len ≤ 4096) (hcode : CodeAt w B sl len) (hB : B ≤ w.heap.size) :
    Calls Try.prog 8 #[sl] w fun e w' => ∃ a b c n : Int, e = .returned (.tuple #[.agg #[.int .i64 a, .int .i64 b, .int .i64 c], .int .i64 n]) ∧ Below w.heap.size w w' := by
  have hc1 : ∀ o, CodeAt (w.alloc o) B sl len := fun o => hcode.kept (World.grownBy_alloc w o (some w.heap.size)) hB
  have hn1 : ∀ o, w.heap.size + 1 = (w.alloc o).heap.size := fun o => by simp
  go_enter Try.func8, Try.ntmps8
  go_wp2_with fail
  go_at_call 19; refine (l1New_any (w.heap.size + 1) (hn1 _) hlen (hc1 _) (by omega)).mono ?_; rintro e w1 ⟨rfl, hC1, hb1⟩
  clear hc1 hn1
  go_wp2_with fail
  go_at_call 20; refine (l1DrawAny_any hC1).mono ?_; rintro e w2 ⟨a, b, c, _, rfl, hC2, hg2⟩
  have hR1 := (hb1.block w.heap.size (by omega)).trans (heap_alloc_new w _)
  have hR2 := g_block hg2 hR1 (by omega)
  have hs1 : w.heap.size < w2.heap.size := lt_of_block hR2
  clear hR1
  have hb2 : Below w.heap.size w w2 := (((Below.refl _ _).alloc (Nat.le_refl _) _).trans (hb1.mono (by omega))).trans (b_grown hg2 (by omega) (by have := hb1.size; simp at this; omega))
  clear hb1 hg2
  go_wp2
  have hlt2 := hC2.lt
  have hne : w.heap.size ≠ w2.heap.size := by omega
  have hne2 : w2.heap.size ≠ w.heap.size := by omega
  have hFrom : ∀ {w : World} {g : Nat}, CurAt w B g sl len → Calls Try.prog 21 #[.pointer (some ⟨g, 0, none⟩), .int .i64 (-1), .int .i64 8] w (Drawn B g sl len (-1) 8 w) := fun h => l1From_any (-1) 8 (by omega) (by omega) (by omega) h
  have hC3 : CurAt (w2.alloc (.cells #[.int .i64 a, .int .i64 b, .int .i64 c] 25)).drew B (w.heap.size + 1) sl len := hC2.alloc (.cells #[.int .i64 a, .int .i64 b, .int .i64 c] 25)
  have hR3 := Lib.hid (alloc_block (.cells #[.int .i64 a, .int .i64 b, .int .i64 c] 25) hR2)
  clear hR2
  have hV := heap_alloc_new w2 (.cells #[.int .i64 a, .int .i64 b, .int .i64 c] 25)
  obtain ⟨v0, v1, v2, q0, q1, q2⟩ := three hV
  go_region_held3 (fun w' => w'.cell? ⟨w2.heap.size, 0, none⟩ = some (.int .i64 a) ∧ w'.cell? ⟨w2.heap.size, 1, none⟩ = some (.int .i64 b) ∧ w'.cell? ⟨w2.heap.size, 2, none⟩ = some (.int .i64 c)) (first | exact ⟨v0, v1, v2⟩ | exact ⟨k0, k1, k2⟩ | (simp [k0, k1, k2, hne, hne2]; done) | go_keep)
    (first | (go_at_call 21; refine (hFrom hC3).mono ?_; rintro e w4 ⟨y, y0, y1, rfl, hC4, hg4⟩; have k0 := (g_cell hg4 (by simp) (by omega) 0).trans v0; have k1 := (g_cell hg4 (by simp) (by omega) 1).trans v1; have k2 := (g_cell hg4 (by simp) (by omega) 2).trans v2; have hR4 := g_block hg4 hR3.out (by omega); obtain ⟨r0, r1, r2, s0, s1, s2⟩ := three hR4; clear hR4))
  go_wp2
  have hb4 : Below w.heap.size w w4 := (((hb2.alloc (Nat.le_of_lt hs1) _).drew).trans (b_grown hg4 (by omega) (by simp; omega)))
  exact bodyPost_ret (v := .tuple #[.agg #[.int .i64 a, .int .i64 b, .int .i64 c], .int .i64 y]) (by simp [results, Try.results8, go_sem, r0, r1, r2]) rfl
    ⟨a, b, c, y, rfl, ((hb4.setCell (p := ⟨w.heap.size, 0, none⟩) (Nat.le_refl _) _).setCell (p := ⟨w.heap.size, 1, none⟩) (Nat.le_refl _) _).setCell (p := ⟨w.heap.size, 2, none⟩) (Nat.le_refl _) _⟩

/-! ### The dice -/
/-- the dice's block -/
def DiceAt (w : World) (B g : Nat) (sl : Value) (len : Nat) : Prop :=
  B ≤ g ∧ len ≤ 4096 ∧ CodeAt w B sl len ∧ ∃ (k : Nat) (h : Int), k ≤ len ∧ w.heap[g]? = some (.cells #[sl, .int .i64 (k : Int), .int .u64 h] 55 (0, 0))
theorem DiceAt.lt {w : World} {B g len : Nat} {sl : Value} (h : DiceAt w B g sl len) : g < w.heap.size := by
  obtain ⟨_, _, _, k, x, _, hh⟩ := h
  exact lt_of_block hh
theorem DiceAt.base {w : World} {B g len : Nat} {sl : Value} (h : DiceAt w B g sl len) : B ≤ g := h.1
theorem DiceAt.alloc {w : World} {B g len : Nat} {sl : Value} (h : DiceAt w B g sl len) (o : Obj) : DiceAt (w.alloc o) B g sl len := by
  have hl := h.lt
  obtain ⟨h1, h2, h3, k, x, hk, hh⟩ := h
  exact ⟨h1, h2, h3.kept (World.grownBy_alloc w o (some g)) h1, k, x, hk, (Below.heap_alloc w o g hl).trans hh⟩
theorem DiceAt.kept {w w' : World} {B g b len : Nat} {sl : Value} (h : DiceAt w B g sl len) (hk : w.grownBy w' (some b)) (hb : B ≤ b) (hn : b ≠ g) : DiceAt w' B g sl len := by
  have hl := h.lt
  obtain ⟨h1, h2, h3, k, x, hk1, hh⟩ := h
  exact ⟨h1, h2, h3.kept hk hb, k, x, hk1, (hk.block g hl (by intro e; injection e; omega)).trans hh⟩
theorem DiceAt.set {w : World} {B g len : Nat} {sl : Value} (h : DiceAt w B g sl len) {b : Nat} (hb : B ≤ b) (hn : b ≠ g) (o : Nat) (u : Value) : DiceAt (w.setCell ⟨b, o, none⟩ u) B g sl len :=
  h.kept (g_own (g_refl w _) o u) hb hn

theorem below_val {A z n : Int} (h0 : 0 ≤ A) (h1 : A ≤ 16777215) (z0 : 0 ≤ z) (z1 : z ≤ 255) (hn : 1 ≤ n) : 0 ≤ (wrap64 (wrap64 A + z)).tmod n ∧ (wrap64 (wrap64 A + z)).tmod n ≤ n - 1 := by
  have e : wrap64 (wrap64 A + z) = A + z := by unfold wrap64; omega
  rw [e, Int.tmod_eq_emod_of_nonneg (by omega)]
  exact ⟨Int.emod_nonneg _ (by omega), by have := Int.emod_lt_of_pos (A + z) (show 0 < n by omega); omega⟩
theorem below_val0 {A n : Int} (h0 : 0 ≤ A) (h1 : A ≤ 16777215) (hn : 1 ≤ n) : 0 ≤ (wrap64 A).tmod n ∧ (wrap64 A).tmod n ≤ n - 1 := by
  have e : wrap64 A = A := by unfold wrap64; omega
  rw [e, Int.tmod_eq_emod_of_nonneg (by omega)]
  exact ⟨Int.emod_nonneg _ (by omega), by have := Int.emod_lt_of_pos A (show 0 < n by omega); omega⟩

def BelowIn (g k : Nat) (n : Int) (w : World) (e : Ending) (w' : World) : Prop :=
  ∃ (x y : Int) (m : Nat), 0 ≤ x ∧ x ≤ n - 1 ∧ e = .returned (.int .i64 x) ∧ w' = (((w.setCell ⟨g, 2, none⟩ (.int .u64 y)).drewN m).setCell ⟨g, 1, none⟩ (.int .i64 ((k : Int) + 1)))
def BelowOut (g : Nat) (n : Int) (w : World) (e : Ending) (w' : World) : Prop :=
  ∃ (x y : Int) (m : Nat), 0 ≤ x ∧ x ≤ n - 1 ∧ e = .returned (.int .i64 x) ∧ w' = ((w.setCell ⟨g, 2, none⟩ (.int .u64 y)).drewN m)

set_option maxHeartbeats 400000 in
theorem below_in (g b off len cap k : Nat) (h z n : Int) (w : World) (hlen : len ≤ 4096) (hk : k < len) (hz0 : 0 ≤ z) (hz1 : z ≤ 255) (hn : 1 ≤ n) (hn2 : n ≤ 1099511627776)
    (h0 : w.cell? ⟨g, 0, none⟩ = some (.slice (some ⟨b, off, none⟩) len cap)) (h1 : w.cell? ⟨g, 1, none⟩ = some (.int .i64 (k : Int))) (h2 : w.cell? ⟨g, 2, none⟩ = some (.int .u64 h))
    (f1 : w.frozen? ⟨g, 1, none⟩ = false) (f2 : w.frozen? ⟨g, 2, none⟩ = false) (hne : b ≠ g) (hc : w.cell? ⟨b, off + k, none⟩ = some (.int .u8 z)) :
    Calls Try.prog 35 #[.pointer (some ⟨g, 0, none⟩), .int .i64 n] w (BelowIn g k n w) := by
  go_enter Try.func35, Try.ntmps35
  go_wp2
  go_quiet (fail)
  go_wp2
  go_quiet (fail)
  go_wp2
  go_ret
  exact ⟨_, _, _, (below_val (and_u64 _ _ (by decide) (by decide)).1 (and_u64 _ _ (by decide) (by decide)).2 hz0 hz1 hn).1, (below_val (and_u64 _ _ (by decide) (by decide)).1 (and_u64 _ _ (by decide) (by decide)).2 hz0 hz1 hn).2, rfl, rfl⟩

set_option maxHeartbeats 400000 in
theorem below_out (g len cap k : Nat) (a : Option Addr) (h n : Int) (w : World) (hlen : len ≤ 4096) (hk : len ≤ k) (hk2 : k ≤ 4096) (hn : 1 ≤ n) (hn2 : n ≤ 1099511627776)
    (h0 : w.cell? ⟨g, 0, none⟩ = some (.slice a len cap)) (h1 : w.cell? ⟨g, 1, none⟩ = some (.int .i64 (k : Int))) (h2 : w.cell? ⟨g, 2, none⟩ = some (.int .u64 h))
    (f2 : w.frozen? ⟨g, 2, none⟩ = false) :
    Calls Try.prog 35 #[.pointer (some ⟨g, 0, none⟩), .int .i64 n] w (BelowOut g n w) := by
  go_enter Try.func35, Try.ntmps35
  go_wp2
  go_quiet (fail)
  go_wp2
  go_ret
  exact ⟨_, _, _, (below_val0 (and_u64 _ _ (by decide) (by decide)).1 (and_u64 _ _ (by decide) (by decide)).2 hn).1, (below_val0 (and_u64 _ _ (by decide) (by decide)).1 (and_u64 _ _ (by decide) (by decide)).2 hn).2, rfl, rfl⟩

/-- a throw of the dice -/
def Thrown (B g : Nat) (sl : Value) (len : Nat) (lo hi : Int) (w : World) (e : Ending) (w' : World) : Prop :=
  ∃ x : Int, lo ≤ x ∧ x ≤ hi ∧ e = .returned (.int .i64 x) ∧ DiceAt w' B g sl len ∧ w.grownBy w' (some g)
theorem below_any {B g len : Nat} {sl : Value} {w : World} (n : Int) (hn : 1 ≤ n) (hn2 : n ≤ 1099511627776) (hC : DiceAt w B g sl len) :
    Calls Try.prog 35 #[.pointer (some ⟨g, 0, none⟩), .int .i64 n] w (Thrown B g sl len 0 (n - 1) w) := by
  have hlt := hC.lt
  obtain ⟨hB, hlen, hcode, k, h, hk, hh⟩ := hC
  have f := unfrozen_of_block hh
  have c0 : w.cell? ⟨g, 0, none⟩ = some sl := cell_of_block hh 0
  have c1 : w.cell? ⟨g, 1, none⟩ = some (.int .i64 (k : Int)) := cell_of_block hh 1
  have c2 : w.cell? ⟨g, 2, none⟩ = some (.int .u64 h) := cell_of_block hh 2
  by_cases hkl : k < len
  · rcases hcode with ⟨hz, _⟩ | ⟨b, off, cap, zs, rfl, hb, hBs, hcell, hzs⟩
    · omega
    · refine (below_in g b off len cap k h _ n w hlen hkl (hzs k).1 (hzs k).2 hn hn2 c0 c1 c2 (f 1) (f 2) (by omega) (hcell k hkl)).mono fun e w' he => ?_
      obtain ⟨x, y, m, hx0, hx1, rfl, rfl⟩ := he
      have hg : w.grownBy (((w.setCell ⟨g, 2, none⟩ (.int .u64 y)).drewN m).setCell ⟨g, 1, none⟩ (.int .i64 ((k : Int) + 1))) (some g) := g_own (g_drewN (g_own (g_refl w _) 2 _) m) 1 _
      have hb2 : ((w.setCell ⟨g, 2, none⟩ (.int .u64 y)).drewN m).heap[g]? = some (.cells #[.slice (some ⟨b, off, none⟩) len cap, .int .i64 (k : Int), .int .u64 y] 55 (0, 0)) := block_setCell hh (i := 2) (.int .u64 y)
      have hb3 := block_setCell hb2 (i := 1) (.int .i64 ((k : Int) + 1))
      simp only [List.setIfInBounds_toArray, List.set_cons_succ, List.set_cons_zero] at hb3
      exact ⟨x, hx0, hx1, rfl, ⟨hB, hlen, CodeAt.kept (.inr ⟨b, off, cap, zs, rfl, hb, hBs, hcell, hzs⟩) hg hB, k + 1, y, hkl, hb3⟩, hg⟩
  · have hsl : ∃ a cap, sl = .slice a len cap := by
      rcases hcode with ⟨rfl, a, cap, rfl⟩ | ⟨b, off, cap, zs, rfl, _⟩
      · exact ⟨_, _, rfl⟩
      · exact ⟨_, _, rfl⟩
    obtain ⟨a, cap, rfl⟩ := hsl
    refine (below_out g len cap k a h n w hlen (by omega) (by omega) hn hn2 c0 c1 c2 (f 2)).mono fun e w' he => ?_
    obtain ⟨x, y, m, hx0, hx1, rfl, rfl⟩ := he
    have hg : w.grownBy ((w.setCell ⟨g, 2, none⟩ (.int .u64 y)).drewN m) (some g) := g_drewN (g_own (g_refl w _) 2 _) m
    exact ⟨x, hx0, hx1, rfl, ⟨hB, hlen, hcode.kept hg hB, k, y, hk, block_setCell hh (i := 2) (.int .u64 y)⟩, hg⟩

/-- a throw that gives a plan -/
def ThrownP (B g : Nat) (sl : Value) (len : Nat) (w : World) (e : Ending) (w' : World) : Prop :=
  ∃ a b c : Int, (1 ≤ a ∧ a ≤ 3) ∧ (1 ≤ b ∧ b ≤ 4) ∧ (4 ≤ c ∧ c ≤ 11) ∧ e = .returned (.agg #[.int .i64 a, .int .i64 b, .int .i64 c]) ∧ DiceAt w' B g sl len ∧ w.grownBy w' (some g)
set_option maxHeartbeats 400000 in
theorem scheme_any {B g len : Nat} {sl : Value} {w : World} (hC : DiceAt w B g sl len) :
    Calls Try.prog 16 #[.pointer (some ⟨g, 0, none⟩)] w (ThrownP B g sl len w) := by
  have hlt := hC.lt
  have hB := hC.base
  go_enter Try.func16, Try.ntmps16
  go_wp2_with fail
  go_at_call 35; refine (below_any _ (by omega) (by omega) (hC.alloc _)).mono ?_; rintro e w1 ⟨x, hx0, hx1, rfl, hC1, hg1⟩
  go_wp2_with fail
  go_at_call 35; refine (below_any _ (by omega) (by omega) hC1).mono ?_; rintro e w2 ⟨y, hy0, hy1, rfl, hC2, hg2⟩
  go_wp2_with fail
  go_at_call 35; refine (below_any _ (by omega) (by omega) hC2).mono ?_; rintro e w3 ⟨z, hz0, hz1, rfl, hC3, hg3⟩
  have hgg := g_trans (g_trans hg1 hg2) hg3
  clear hg1 hg2 hg3
  have hb := g_block hgg (heap_alloc_new w _) (by omega)
  obtain ⟨c0, c1, c2, f0, f1, f2⟩ := three hb
  have hg4 := g_trans (World.grownBy_alloc w _ (some g)) hgg
  clear hb hgg
  go_wp2
  exact bodyPost_ret (v := .agg #[.int .i64 (1 + x), .int .i64 (1 + y), .int .i64 (4 + z)]) (by simp [results, Try.results16, go_sem, c0, c1, c2]) rfl
    ⟨_, _, _, by omega, by omega, by omega, rfl, ((hC3.set (by omega) (by omega) _ _).set (by omega) (by omega) _ _).set (by omega) (by omega) _ _, g_new (g_new (g_new hg4 (Nat.le_refl _) _ _) (Nat.le_refl _) _ _) (Nat.le_refl _) _ _⟩

/-- dice made new -/
def NewDice (sl : Value) (w : World) (e : Ending) (w' : World) : Prop :=
  ∃ (h : Int) (n : Nat), e = .returned (.pointer (some ⟨w.heap.size, 0, none⟩)) ∧ w' = (w.alloc (.cells #[sl, .int .i64 0, .int .u64 h] 55)).drewN n

set_option maxHeartbeats 400000 in
theorem roll_none (a : Option Addr) (cap : Nat) (s : Int) (hs0 : 0 ≤ s) (hs1 : s ≤ 1000) (w : World) :
    Calls Try.prog 17 #[.slice a 0 cap, .int .u64 s] w (NewDice (.slice a 0 cap) w) := by
  go_enter Try.func17, Try.ntmps17
  go_wp2
  go_loop [6] (fun i => i = .int .i64 0) (fun _ => 0)
  case atStart => rfl
  case round =>
    subst hrel
    go_wp2
    go_ret
    exact ⟨_, 0, rfl, rfl⟩

theorem dice_set (w : World) (sl : Value) (h v : Int) (n : Nat) :
    ((w.alloc (.cells #[sl, .int .i64 0, .int .u64 h] 55)).drewN n).setCell ⟨w.heap.size, 2, none⟩ (.int .u64 v) = (w.alloc (.cells #[sl, .int .i64 0, .int .u64 v] 55)).drewN n :=
  congrArg (fun x : World => x.drewN n) (World.setCell_alloc_at #[sl, .int .i64 0, .int .u64 h] 55 w.heap.size 2 (.int .u64 v) rfl)

set_option maxHeartbeats 400000 in
theorem roll_some (b off len cap : Nat) (zs : List Int) (s : Int) (hs0 : 0 ≤ s) (hs1 : s ≤ 1000) (w : World) (hlen : len ≤ 4096) (hbl : b < w.heap.size) (hcell : ∀ k, k < len → w.cell? ⟨b, off + k, none⟩ = some (.int .u8 (zs.getD k 0))) :
    Calls Try.prog 17 #[.slice (some ⟨b, off, none⟩) len cap, .int .u64 s] w (NewDice (.slice (some ⟨b, off, none⟩) len cap) w) := by
  have H := Lib.hid hcell
  clear hcell
  have hne : b ≠ w.heap.size := by omega
  go_enter Try.func17, Try.ntmps17
  go_wp2
  go_loopw [6] (fun i wr => ∃ (k n : Nat) (h : Int), k ≤ len ∧ i = .int .i64 k ∧ wr = (w.alloc (.cells #[.slice (some ⟨b, off, none⟩) len cap, .int .i64 0, .int .u64 h] 55)).drewN n) (fun i _ => len - (intOf i).toNat)
  case atStart => exact ⟨0, 0, _, Nat.zero_le _, rfl, rfl⟩
  case round =>
    obtain ⟨k, n, h, hk, rfl, rfl⟩ := hrel
    by_cases hlt : k < len
    · have hc := H.out k hlt
      go_wp2
      go_region
      go_wp2
      exact ⟨⟨k + 1, n + 1, _, by omega, by go_num, dice_set w _ _ _ _⟩, by simp [intOf]; omega⟩
    · go_wp2
      go_ret
      exact ⟨_, _, rfl, rfl⟩

theorem roll_any {B len : Nat} {sl : Value} {w : World} (s : Int) (hs0 : 0 ≤ s) (hs1 : s ≤ 1000) (n : Nat) (hn : n = w.heap.size) (hlen : len ≤ 4096) (hcode : CodeAt w B sl len) (hB : B ≤ n) :
    Calls Try.prog 17 #[sl, .int .u64 s] w fun e w' => e = .returned (.pointer (some ⟨n, 0, none⟩)) ∧ DiceAt w' B n sl len ∧ Below n w w' := by
  subst hn
  have core : Calls Try.prog 17 #[sl, .int .u64 s] w (NewDice sl w) := by
    rcases hcode with ⟨rfl, a, cap, rfl⟩ | ⟨b, off, cap, zs, rfl, h2, h3, h4, h5⟩
    · exact roll_none a cap s hs0 hs1 w
    · exact roll_some b off len cap zs s hs0 hs1 w hlen (by omega) h4
  refine core.mono fun e w' he => ?_
  obtain ⟨h, m, rfl, rfl⟩ := he
  have hg := g_drewN (World.grownBy_alloc w (.cells #[sl, .int .i64 0, .int .u64 h] 55) (some w.heap.size)) m
  exact ⟨rfl, ⟨hB, hlen, hcode.kept hg hB, 0, h, Nat.zero_le _, heap_alloc_new w _⟩, b_grown hg (Nat.le_refl _) (Nat.le_refl _)⟩

end Go.Proofs.Ytihekcmcdcenaaa
