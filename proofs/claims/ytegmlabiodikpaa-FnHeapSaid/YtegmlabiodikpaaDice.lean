/-
  The dice.
-/
import Derived.Test.YtegmlabiodikpaaCur
namespace Go.Proofs.Ytegmlabiodikpaa
open Go.RowKit Go.Joins
set_option linter.unusedVariables false

/-! ### The dice -/
/-- the dice's block -/
def DiceAt (w : World) (B g : Nat) (sl : Value) (len : Nat) : Prop :=
  B ≤ g ∧ len ≤ 4096 ∧ CodeAt w B sl len ∧ ∃ (k : Nat) (h : Int), k ≤ len ∧ w.heap[g]? = some (.cells #[sl, .int .i64 (k : Int), .int .u64 h] 54 (0, 0))
theorem DiceAt.lt {w : World} {B g len : Nat} {sl : Value} (h : DiceAt w B g sl len) : g < w.heap.size := by
  obtain ⟨_, _, _, k, x, _, hh⟩ := h
  exact lt_of_block hh
theorem DiceAt.base {w : World} {B g len : Nat} {sl : Value} (h : DiceAt w B g sl len) : B ≤ g := h.1
theorem DiceAt.alloc {w : World} {B g len : Nat} {sl : Value} (h : DiceAt w B g sl len) (o : Obj) : DiceAt (w.alloc o) B g sl len := by
  have hl := h.lt
  obtain ⟨h1, h2, h3, k, x, hk, hh⟩ := h
  exact ⟨h1, h2, h3.kept (World.grownBy_alloc w o (some g)) h1, k, x, hk, (Below.heap_alloc w o g hl).trans hh⟩
theorem DiceAt.kept {w w' : World} {B g b len : Nat} {sl : Value} (h : DiceAt w B g sl len) (hk : w.grownBy w' (some b)) (hb : B ≤ b) (hn : b ≠ g) : DiceAt w' B g sl len := by
  have hl := h.lt
  obtain ⟨h1, h2, h3, k, x, hk1, hh⟩ := h
  exact ⟨h1, h2, h3.kept hk hb, k, x, hk1, (hk.block g hl (by intro e; injection e; omega)).trans hh⟩
theorem DiceAt.set {w : World} {B g len : Nat} {sl : Value} (h : DiceAt w B g sl len) {b : Nat} (hb : B ≤ b) (hn : b ≠ g) (o : Nat) (u : Value) : DiceAt (w.setCell ⟨b, o, none⟩ u) B g sl len :=
  h.kept (g_own (g_refl w _) o u) hb hn

theorem below_val {A z n : Int} (h0 : 0 ≤ A) (h1 : A ≤ 16777215) (z0 : 0 ≤ z) (z1 : z ≤ 255) (hn : 1 ≤ n) : 0 ≤ (wrap64 (wrap64 A + z)).tmod n ∧ (wrap64 (wrap64 A + z)).tmod n ≤ n - 1 := by
  have e : wrap64 (wrap64 A + z) = A + z := by unfold wrap64; omega
  rw [e, Int.tmod_eq_emod_of_nonneg (by omega)]
  exact ⟨Int.emod_nonneg _ (by omega), by have := Int.emod_lt_of_pos (A + z) (show 0 < n by omega); omega⟩
theorem below_val0 {A n : Int} (h0 : 0 ≤ A) (h1 : A ≤ 16777215) (hn : 1 ≤ n) : 0 ≤ (wrap64 A).tmod n ∧ (wrap64 A).tmod n ≤ n - 1 := by
  have e : wrap64 A = A := by unfold wrap64; omega
  rw [e, Int.tmod_eq_emod_of_nonneg (by omega)]
  exact ⟨Int.emod_nonneg _ (by omega), by have := Int.emod_lt_of_pos A (show 0 < n by omega); omega⟩

def BelowIn (g k : Nat) (n : Int) (w : World) (e : Ending) (w' : World) : Prop :=
  ∃ (x y : Int) (m : Nat), 0 ≤ x ∧ x ≤ n - 1 ∧ e = .returned (.int .i64 x) ∧ w' = (((w.setCell ⟨g, 2, none⟩ (.int .u64 y)).drewN m).setCell ⟨g, 1, none⟩ (.int .i64 ((k : Int) + 1)))
def BelowOut (g : Nat) (n : Int) (w : World) (e : Ending) (w' : World) : Prop :=
  ∃ (x y : Int) (m : Nat), 0 ≤ x ∧ x ≤ n - 1 ∧ e = .returned (.int .i64 x) ∧ w' = ((w.setCell ⟨g, 2, none⟩ (.int .u64 y)).drewN m)

set_option maxHeartbeats 400000 in
theorem below_in (g b off len cap k : Nat) (h z n : Int) (w : World) (hlen : len ≤ 4096) (hk : k < len) (hz0 : 0 ≤ z) (hz1 : z ≤ 255) (hn : 1 ≤ n) (hn2 : n ≤ 1099511627776)
    (h0 : w.cell? ⟨g, 0, none⟩ = some (.slice (some ⟨b, off, none⟩) len cap)) (h1 : w.cell? ⟨g, 1, none⟩ = some (.int .i64 (k : Int))) (h2 : w.cell? ⟨g, 2, none⟩ = some (.int .u64 h))
    (f1 : w.frozen? ⟨g, 1, none⟩ = false) (f2 : w.frozen? ⟨g, 2, none⟩ = false) (hne : b ≠ g) (hc : w.cell? ⟨b, off + k, none⟩ = some (.int .u8 z)) :
    Calls Try.prog 13 #[.pointer (some ⟨g, 0, none⟩), .int .i64 n] w (BelowIn g k n w) := by
  go_enter Try.func13, Try.ntmps13
  go_wp2
  go_quiet (fail)
  go_wp2
  go_quiet (fail)
  go_wp2
  go_ret
  exact ⟨_, _, _, (below_val (and_u64 _ _ (by decide) (by decide)).1 (and_u64 _ _ (by decide) (by decide)).2 hz0 hz1 hn).1, (below_val (and_u64 _ _ (by decide) (by decide)).1 (and_u64 _ _ (by decide) (by decide)).2 hz0 hz1 hn).2, rfl, rfl⟩

set_option maxHeartbeats 400000 in
theorem below_out (g len cap k : Nat) (a : Option Addr) (h n : Int) (w : World) (hlen : len ≤ 4096) (hk : len ≤ k) (hk2 : k ≤ 4096) (hn : 1 ≤ n) (hn2 : n ≤ 1099511627776)
    (h0 : w.cell? ⟨g, 0, none⟩ = some (.slice a len cap)) (h1 : w.cell? ⟨g, 1, none⟩ = some (.int .i64 (k : Int))) (h2 : w.cell? ⟨g, 2, none⟩ = some (.int .u64 h))
    (f2 : w.frozen? ⟨g, 2, none⟩ = false) :
    Calls Try.prog 13 #[.pointer (some ⟨g, 0, none⟩), .int .i64 n] w (BelowOut g n w) := by
  go_enter Try.func13, Try.ntmps13
  go_wp2
  go_quiet (fail)
  go_wp2
  go_ret
  exact ⟨_, _, _, (below_val0 (and_u64 _ _ (by decide) (by decide)).1 (and_u64 _ _ (by decide) (by decide)).2 hn).1, (below_val0 (and_u64 _ _ (by decide) (by decide)).1 (and_u64 _ _ (by decide) (by decide)).2 hn).2, rfl, rfl⟩

/-- a throw of the dice -/
def Thrown (B g : Nat) (sl : Value) (len : Nat) (lo hi : Int) (w : World) (e : Ending) (w' : World) : Prop :=
  ∃ x : Int, lo ≤ x ∧ x ≤ hi ∧ e = .returned (.int .i64 x) ∧ DiceAt w' B g sl len ∧ w.grownBy w' (some g)
theorem below_any {B g len : Nat} {sl : Value} {w : World} (n : Int) (hn : 1 ≤ n) (hn2 : n ≤ 1099511627776) (hC : DiceAt w B g sl len) :
    Calls Try.prog 13 #[.pointer (some ⟨g, 0, none⟩), .int .i64 n] w (Thrown B g sl len 0 (n - 1) w) := by
  have hlt := hC.lt
  obtain ⟨hB, hlen, hcode, k, h, hk, hh⟩ := hC
  have f := unfrozen_of_block hh
  have c0 : w.cell? ⟨g, 0, none⟩ = some sl := cell_of_block hh 0
  have c1 : w.cell? ⟨g, 1, none⟩ = some (.int .i64 (k : Int)) := cell_of_block hh 1
  have c2 : w.cell? ⟨g, 2, none⟩ = some (.int .u64 h) := cell_of_block hh 2
  by_cases hkl : k < len
  · rcases hcode with ⟨hz, _⟩ | ⟨b, off, cap, zs, rfl, hb, hBs, hcell, hzs⟩
    · omega
    · refine (below_in g b off len cap k h _ n w hlen hkl (hzs k).1 (hzs k).2 hn hn2 c0 c1 c2 (f 1) (f 2) (by omega) (hcell k hkl)).mono fun e w' he => ?_
      obtain ⟨x, y, m, hx0, hx1, rfl, rfl⟩ := he
      have hg : w.grownBy (((w.setCell ⟨g, 2, none⟩ (.int .u64 y)).drewN m).setCell ⟨g, 1, none⟩ (.int .i64 ((k : Int) + 1))) (some g) := g_own (g_drewN (g_own (g_refl w _) 2 _) m) 1 _
      have hb2 : ((w.setCell ⟨g, 2, none⟩ (.int .u64 y)).drewN m).heap[g]? = some (.cells #[.slice (some ⟨b, off, none⟩) len cap, .int .i64 (k : Int), .int .u64 y] 54 (0, 0)) := block_setCell hh (i := 2) (.int .u64 y)
      have hb3 := block_setCell hb2 (i := 1) (.int .i64 ((k : Int) + 1))
      simp only [List.setIfInBounds_toArray, List.set_cons_succ, List.set_cons_zero] at hb3
      exact ⟨x, hx0, hx1, rfl, ⟨hB, hlen, CodeAt.kept (.inr ⟨b, off, cap, zs, rfl, hb, hBs, hcell, hzs⟩) hg hB, k + 1, y, hkl, hb3⟩, hg⟩
  · have hsl : ∃ a cap, sl = .slice a len cap := by
      rcases hcode with ⟨rfl, a, cap, rfl⟩ | ⟨b, off, cap, zs, rfl, _⟩
      · exact ⟨_, _, rfl⟩
      · exact ⟨_, _, rfl⟩
    obtain ⟨a, cap, rfl⟩ := hsl
    refine (below_out g len cap k a h n w hlen (by omega) (by omega) hn hn2 c0 c1 c2 (f 2)).mono fun e w' he => ?_
    obtain ⟨x, y, m, hx0, hx1, rfl, rfl⟩ := he
    have hg : w.grownBy ((w.setCell ⟨g, 2, none⟩ (.int .u64 y)).drewN m) (some g) := g_drewN (g_own (g_refl w _) 2 _) m
    exact ⟨x, hx0, hx1, rfl, ⟨hB, hlen, hcode.kept hg hB, k, y, hk, block_setCell hh (i := 2) (.int .u64 y)⟩, hg⟩

/-- dice made new -/
def NewDice (sl : Value) (w : World) (e : Ending) (w' : World) : Prop :=
  ∃ (h : Int) (n : Nat), e = .returned (.pointer (some ⟨w.heap.size, 0, none⟩)) ∧ w' = (w.alloc (.cells #[sl, .int .i64 0, .int .u64 h] 54)).drewN n

set_option maxHeartbeats 400000 in
theorem roll_none (a : Option Addr) (cap : Nat) (s : Int) (hs0 : 0 ≤ s) (hs1 : s ≤ 1000) (w : World) :
    Calls Try.prog 12 #[.slice a 0 cap, .int .u64 s] w (NewDice (.slice a 0 cap) w) := by
  go_enter Try.func12, Try.ntmps12
  go_wp2
  go_loop [6] (fun i => i = .int .i64 0) (fun _ => 0)
  case atStart => rfl
  case round =>
    subst hrel
    go_wp2
    go_ret
    exact ⟨_, 0, rfl, rfl⟩

theorem dice_set (w : World) (sl : Value) (h v : Int) (n : Nat) :
    ((w.alloc (.cells #[sl, .int .i64 0, .int .u64 h] 54)).drewN n).setCell ⟨w.heap.size, 2, none⟩ (.int .u64 v) = (w.alloc (.cells #[sl, .int .i64 0, .int .u64 v] 54)).drewN n :=
  congrArg (fun x : World => x.drewN n) (World.setCell_alloc_at #[sl, .int .i64 0, .int .u64 h] 54 w.heap.size 2 (.int .u64 v) rfl)

set_option maxHeartbeats 400000 in
theorem roll_some (b off len cap : Nat) (zs : List Int) (s : Int) (hs0 : 0 ≤ s) (hs1 : s ≤ 1000) (w : World) (hlen : len ≤ 4096) (hbl : b < w.heap.size) (hcell : ∀ k, k < len → w.cell? ⟨b, off + k, none⟩ = some (.int .u8 (zs.getD k 0))) :
    Calls Try.prog 12 #[.slice (some ⟨b, off, none⟩) len cap, .int .u64 s] w (NewDice (.slice (some ⟨b, off, none⟩) len cap) w) := by
  have H := Lib.hid hcell
  clear hcell
  have hne : b ≠ w.heap.size := by omega
  go_enter Try.func12, Try.ntmps12
  go_wp2
  go_loopw [6] (fun i wr => ∃ (k n : Nat) (h : Int), k ≤ len ∧ i = .int .i64 k ∧ wr = (w.alloc (.cells #[.slice (some ⟨b, off, none⟩) len cap, .int .i64 0, .int .u64 h] 54)).drewN n) (fun i _ => len - (intOf i).toNat)
  case atStart => exact ⟨0, 0, _, Nat.zero_le _, rfl, rfl⟩
  case round =>
    obtain ⟨k, n, h, hk, rfl, rfl⟩ := hrel
    by_cases hlt : k < len
    · have hc := H.out k hlt
      go_wp2
      go_region
      go_wp2
      exact ⟨⟨k + 1, n + 1, _, by omega, by go_num, dice_set w _ _ _ _⟩, by simp [intOf]; omega⟩
    · go_wp2
      go_ret
      exact ⟨_, _, rfl, rfl⟩

theorem roll_any {B len : Nat} {sl : Value} {w : World} (s : Int) (hs0 : 0 ≤ s) (hs1 : s ≤ 1000) (n : Nat) (hn : n = w.heap.size) (hlen : len ≤ 4096) (hcode : CodeAt w B sl len) (hB : B ≤ n) :
    Calls Try.prog 12 #[sl, .int .u64 s] w fun e w' => e = .returned (.pointer (some ⟨n, 0, none⟩)) ∧ DiceAt w' B n sl len ∧ Below n w w' := by
  subst hn
  have core : Calls Try.prog 12 #[sl, .int .u64 s] w (NewDice sl w) := by
    rcases hcode with ⟨rfl, a, cap, rfl⟩ | ⟨b, off, cap, zs, rfl, h2, h3, h4, h5⟩
    · exact roll_none a cap s hs0 hs1 w
    · exact roll_some b off len cap zs s hs0 hs1 w hlen (by omega) h4
  refine core.mono fun e w' he => ?_
  obtain ⟨h, m, rfl, rfl⟩ := he
  have hg := g_drewN (World.grownBy_alloc w (.cells #[sl, .int .i64 0, .int .u64 h] 54) (some w.heap.size)) m
  exact ⟨rfl, ⟨hB, hlen, hcode.kept hg hB, 0, h, Nat.zero_le _, heap_alloc_new w _⟩, b_grown hg (Nat.le_refl _) (Nat.le_refl _)⟩

end Go.Proofs.Ytegmlabiodikpaa
