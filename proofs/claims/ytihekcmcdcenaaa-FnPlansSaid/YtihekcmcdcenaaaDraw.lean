/-
  The draws: what a cursor over the bytes of a code answers, and that nothing but its own block is written.
-/
import Derived.Test.YtihekcmcdcenaaaPlanWalks
import Derived.Deep.QuietTactic
import Derived.BigQuiet
import Derived.OneCell
import Derived.Deep.RegionWith
import Derived.Deep.RegionHeld3
import Derived.Lib.SmallJoins
import Derived.Laws.BitsAllLaws
namespace Go.Proofs.Ytihekcmcdcenaaa
open Go.RowKit Go.Joins
set_option linter.unusedVariables false

/-! ### Plain lemmas: masks; what is left as it was -/
theorem and_i64 (x m : Int) (h0 : 0 ≤ m) (h1 : m < 9223372036854775808) : 0 ≤ bits .and .i64 x m ∧ bits .and .i64 x m ≤ m := by
  have e : bits .and .i64 x m = IntKind.i64.wrap ((BitVec.ofInt 64 x &&& BitVec.ofInt 64 m).toNat : Int) := rfl
  have hm : (BitVec.ofInt 64 m).toNat = m.toNat := by
    rw [BitVec.toNat_ofInt]; omega
  have hle : (BitVec.ofInt 64 x &&& BitVec.ofInt 64 m).toNat ≤ m.toNat := by
    rw [BitVec.toNat_and, hm]; exact Nat.and_le_right
  rw [e, IntKind.wrap_i64]
  generalize (BitVec.ofInt 64 x &&& BitVec.ofInt 64 m).toNat = y at hle
  omega
theorem and_u64 (x m : Int) (h0 : 0 ≤ m) (h1 : m < 9223372036854775808) : 0 ≤ bits .and .u64 x m ∧ bits .and .u64 x m ≤ m := by
  have e : bits .and .u64 x m = IntKind.u64.wrap ((BitVec.ofInt 64 x &&& BitVec.ofInt 64 m).toNat : Int) := rfl
  have hm : (BitVec.ofInt 64 m).toNat = m.toNat := by
    rw [BitVec.toNat_ofInt]; omega
  have hle : (BitVec.ofInt 64 x &&& BitVec.ofInt 64 m).toNat ≤ m.toNat := by
    rw [BitVec.toNat_and, hm]; exact Nat.and_le_right
  have w64 : ∀ n : Int, IntKind.u64.wrap n = n % 18446744073709551616 := fun n => by simp [IntKind.wrap, IntKind.bits, IntKind.signed]
  rw [e, w64]
  generalize (BitVec.ofInt 64 x &&& BitVec.ofInt 64 m).toNat = y at hle
  omega

theorem g_refl (w : World) (r : Option Nat) : w.grownBy w r := ⟨rfl, rfl, rfl, Nat.le_refl _, fun _ _ _ => rfl⟩
theorem g_trans {a b c : World} {r : Option Nat} (h : a.grownBy b r) (k : b.grownBy c r) : a.grownBy c r :=
  ⟨k.os.trans h.os, k.tape.trans h.tape, k.output.trans h.output, Nat.le_trans h.size k.size, fun i hi hn => (k.block i (Nat.lt_of_lt_of_le hi h.size) hn).trans (h.block i hi hn)⟩
theorem g_drewN {a w : World} {r : Option Nat} (h : a.grownBy w r) (n : Nat) : a.grownBy (w.drewN n) r := ⟨h.os, h.tape, h.output, h.size, h.block⟩
theorem g_drew {a w : World} {r : Option Nat} (h : a.grownBy w r) : a.grownBy w.drew r := ⟨h.os, h.tape, h.output, h.size, h.block⟩
theorem g_alloc {a w : World} {r : Option Nat} (h : a.grownBy w r) (o : Obj) : a.grownBy (w.alloc o) r := g_trans h (World.grownBy_alloc w o r)
theorem g_set {a w : World} {g : Nat} (h : a.grownBy w (some g)) {p : Addr} (hp : p.block = g ∨ a.heap.size ≤ p.block) (u : Value) : a.grownBy (w.setCell p u) (some g) :=
  ⟨h.os, h.tape, h.output, by simpa [World.setCell] using h.size, fun i hi hn => (Below.heap_setCell w p u i (by
    rintro rfl
    rcases hp with hp | hp
    · exact hn (by rw [hp])
    · omega)).trans (h.block i hi hn)⟩
theorem g_own {a w : World} {g : Nat} (h : a.grownBy w (some g)) (o : Nat) (u : Value) : a.grownBy (w.setCell ⟨g, o, none⟩ u) (some g) := g_set h (p := ⟨g, o, none⟩) (Or.inl rfl) u
theorem g_new {a w : World} {g : Nat} (h : a.grownBy w (some g)) {b : Nat} (hb : a.heap.size ≤ b) (o : Nat) (u : Value) : a.grownBy (w.setCell ⟨b, o, none⟩ u) (some g) := g_set h (p := ⟨b, o, none⟩) (Or.inr hb) u
theorem g_below {a w : World} (h : Below a.heap.size a w) (r : Option Nat) : a.grownBy w r := ⟨h.os, h.tape, h.output, h.size, fun i hi _ => h.block i hi⟩
theorem b_grown {a w : World} {B g : Nat} (h : a.grownBy w (some g)) (hB : B ≤ g) (hs : B ≤ a.heap.size) : Below B a w :=
  ⟨h.os, h.tape, h.output, h.size, fun i hi => h.block i (by omega) (by intro e; injection e; omega)⟩
/-- cells and marks of all blocks but one -/
theorem g_cell {a w : World} {g : Nat} (h : a.grownBy w (some g)) {b : Nat} (hb : b < a.heap.size) (hn : b ≠ g) (o : Nat) : w.cell? ⟨b, o, none⟩ = a.cell? ⟨b, o, none⟩ :=
  World.cell?_of_block (h.block b hb (by intro e; injection e; contradiction))
theorem g_frozen {a w : World} {g : Nat} (h : a.grownBy w (some g)) {b : Nat} (hb : b < a.heap.size) (hn : b ≠ g) (o : Nat) : w.frozen? ⟨b, o, none⟩ = a.frozen? ⟨b, o, none⟩ :=
  World.frozen?_of_block (h.block b hb (by intro e; injection e; contradiction))

theorem g_block {a w : World} {g : Nat} (h : a.grownBy w (some g)) {b : Nat} {o : Obj} (hb : a.heap[b]? = some o) (hn : b ≠ g) : w.heap[b]? = some o :=
  (h.block b (lt_of_block hb) (by intro e; injection e; contradiction)).trans hb
/-- a block of three cells: what they hold, that they may be written -/
theorem three {w : World} {b : Nat} {x y z : Value} {t : TypeId} (h : w.heap[b]? = some (.cells #[x, y, z] t (0, 0))) :
    w.cell? ⟨b, 0, none⟩ = some x ∧ w.cell? ⟨b, 1, none⟩ = some y ∧ w.cell? ⟨b, 2, none⟩ = some z ∧ w.frozen? ⟨b, 0, none⟩ = false ∧ w.frozen? ⟨b, 1, none⟩ = false ∧ w.frozen? ⟨b, 2, none⟩ = false :=
  ⟨cell_of_block h 0, cell_of_block h 1, cell_of_block h 2, unfrozen_of_block h 0, unfrozen_of_block h 1, unfrozen_of_block h 2⟩
theorem alloc_block {w : World} {b : Nat} {o : Obj} (o' : Obj) (h : w.heap[b]? = some o) : (w.alloc o').heap[b]? = some o := (Below.heap_alloc w o' b (lt_of_block h)).trans h

/-! ### The code and the cursor -/
/-- the bytes of the code: no memory at all, or bytes that can be read, in a block below B -/
def CodeAt (w : World) (B : Nat) (sl : Value) (len : Nat) : Prop :=
  (len = 0 ∧ ∃ (a : Option Addr) (cap : Nat), sl = .slice a 0 cap) ∨ ∃ (b off cap : Nat) (zs : List Int), sl = .slice (some ⟨b, off, none⟩) len cap ∧ b < B ∧ B ≤ w.heap.size ∧ (∀ k, k < len → w.cell? ⟨b, off + k, none⟩ = some (.int .u8 (zs.getD k 0))) ∧ ∀ k, 0 ≤ zs.getD k 0 ∧ zs.getD k 0 ≤ 255
theorem CodeAt.kept {w w' : World} {B len g : Nat} {sl : Value} (h : CodeAt w B sl len) (hg : w.grownBy w' (some g)) (hB : B ≤ g) : CodeAt w' B sl len := by
  rcases h with h | ⟨b, off, cap, zs, h1, h2, h3, h4, h5⟩
  · exact .inl h
  · exact .inr ⟨b, off, cap, zs, h1, h2, Nat.le_trans h3 hg.size, fun k hk => (g_cell hg (by omega) (by omega) _).trans (h4 k hk), h5⟩
/-- the cursor's block -/
def CurAt (w : World) (B g : Nat) (sl : Value) (len : Nat) : Prop :=
  B ≤ g ∧ len ≤ 4096 ∧ CodeAt w B sl len ∧ ∃ (k : Nat) (h : Int), k ≤ len ∧ w.heap[g]? = some (.cells #[sl, .int .i64 (k : Int), .int .i64 h] 57 (0, 0))
theorem CurAt.lt {w : World} {B g len : Nat} {sl : Value} (h : CurAt w B g sl len) : g < w.heap.size := by
  obtain ⟨_, _, _, k, x, _, hh⟩ := h
  exact lt_of_block hh
theorem CurAt.alloc {w : World} {B g len : Nat} {sl : Value} (h : CurAt w B g sl len) (o : Obj) : CurAt (w.alloc o) B g sl len := by
  have hl := h.lt
  obtain ⟨h1, h2, h3, k, x, hk, hh⟩ := h
  exact ⟨h1, h2, h3.kept (World.grownBy_alloc w o (some g)) h1, k, x, hk, (Below.heap_alloc w o g hl).trans hh⟩
theorem CurAt.kept {w w' : World} {B g b len : Nat} {sl : Value} (h : CurAt w B g sl len) (hk : w.grownBy w' (some b)) (hb : B ≤ b) (hn : b ≠ g) : CurAt w' B g sl len := by
  have hl := h.lt
  obtain ⟨h1, h2, h3, k, x, hk1, hh⟩ := h
  exact ⟨h1, h2, h3.kept hk hb, k, x, hk1, (hk.block g hl (by intro e; injection e; omega)).trans hh⟩
theorem CurAt.set {w : World} {B g len : Nat} {sl : Value} (h : CurAt w B g sl len) {b : Nat} (hb : B ≤ b) (hn : b ≠ g) (o : Nat) (u : Value) : CurAt (w.setCell ⟨b, o, none⟩ u) B g sl len :=
  h.kept (g_own (g_refl w _) o u) hb hn
theorem CurAt.base {w : World} {B g len : Nat} {sl : Value} (h : CurAt w B g sl len) : B ≤ g := h.1
/-- a call that draws a number from lo to hi -/
def Drawn (B g : Nat) (sl : Value) (len : Nat) (lo hi : Int) (w : World) (e : Ending) (w' : World) : Prop :=
  ∃ x : Int, lo ≤ x ∧ x ≤ hi ∧ e = .returned (.int .i64 x) ∧ CurAt w' B g sl len ∧ w.grownBy w' (some g)

def ByteIn (g k : Nat) (w : World) (e : Ending) (w' : World) : Prop :=
  ∃ (x y : Int) (n : Nat), 0 ≤ x ∧ x ≤ 255 ∧ e = .returned (.int .i64 x) ∧ w' = (((w.setCell ⟨g, 2, none⟩ (.int .i64 y)).drewN n).setCell ⟨g, 1, none⟩ (.int .i64 ((k : Int) + 1)))
def ByteOut (g : Nat) (w : World) (e : Ending) (w' : World) : Prop :=
  ∃ (x y : Int) (n : Nat), 0 ≤ x ∧ x ≤ 255 ∧ e = .returned (.int .i64 x) ∧ w' = ((w.setCell ⟨g, 2, none⟩ (.int .i64 y)).drewN n)

set_option maxHeartbeats 400000 in
theorem l1Byte_in (g b off len cap k : Nat) (h z : Int) (w : World) (hlen : len ≤ 4096) (hk : k < len)
    (h0 : w.cell? ⟨g, 0, none⟩ = some (.slice (some ⟨b, off, none⟩) len cap)) (h1 : w.cell? ⟨g, 1, none⟩ = some (.int .i64 (k : Int))) (h2 : w.cell? ⟨g, 2, none⟩ = some (.int .i64 h))
    (f1 : w.frozen? ⟨g, 1, none⟩ = false) (f2 : w.frozen? ⟨g, 2, none⟩ = false) (hne : b ≠ g) (hc : w.cell? ⟨b, off + k, none⟩ = some (.int .u8 z)) :
    Calls Try.prog 37 #[.pointer (some ⟨g, 0, none⟩)] w (ByteIn g k w) := by
  go_enter Try.func37, Try.ntmps37
  go_wp2
  go_quiet (fail)
  go_wp2
  go_quiet (fail)
  go_wp2
  go_quiet (fail)
  go_wp2
  go_ret
  exact ⟨_, _, _, (and_i64 _ _ (by decide) (by decide)).1, (and_i64 _ _ (by decide) (by decide)).2, rfl, rfl⟩

set_option maxHeartbeats 400000 in
theorem l1Byte_out (g len cap k : Nat) (a : Option Addr) (h : Int) (w : World) (hlen : len ≤ 4096) (hk : len ≤ k) (hk2 : k ≤ 4096)
    (h0 : w.cell? ⟨g, 0, none⟩ = some (.slice a len cap)) (h1 : w.cell? ⟨g, 1, none⟩ = some (.int .i64 (k : Int))) (h2 : w.cell? ⟨g, 2, none⟩ = some (.int .i64 h))
    (f2 : w.frozen? ⟨g, 2, none⟩ = false) :
    Calls Try.prog 37 #[.pointer (some ⟨g, 0, none⟩)] w (ByteOut g w) := by
  go_enter Try.func37, Try.ntmps37
  go_wp2
  go_quiet (fail)
  go_wp2
  go_quiet (fail)
  go_wp2
  simp only [World.drewN_drewN]
  go_ret
  exact ⟨_, _, _, (and_i64 _ _ (by decide) (by decide)).1, (and_i64 _ _ (by decide) (by decide)).2, rfl, rfl⟩

theorem l1Byte_any {B g len : Nat} {sl : Value} {w : World} (hC : CurAt w B g sl len) :
    Calls Try.prog 37 #[.pointer (some ⟨g, 0, none⟩)] w (Drawn B g sl len 0 255 w) := by
  have hlt := hC.lt
  obtain ⟨hB, hlen, hcode, k, h, hk, hh⟩ := hC
  have f := unfrozen_of_block hh
  have c0 : w.cell? ⟨g, 0, none⟩ = some sl := cell_of_block hh 0
  have c1 : w.cell? ⟨g, 1, none⟩ = some (.int .i64 (k : Int)) := cell_of_block hh 1
  have c2 : w.cell? ⟨g, 2, none⟩ = some (.int .i64 h) := cell_of_block hh 2
  by_cases hkl : k < len
  · rcases hcode with ⟨hz, _⟩ | ⟨b, off, cap, zs, rfl, hb, hBs, hcell, hzs⟩
    · omega
    · refine (l1Byte_in g b off len cap k h _ w hlen hkl c0 c1 c2 (f 1) (f 2) (by omega) (hcell k hkl)).mono fun e w' he => ?_
      obtain ⟨x, y, n, hx0, hx1, rfl, rfl⟩ := he
      have hg : w.grownBy (((w.setCell ⟨g, 2, none⟩ (.int .i64 y)).drewN n).setCell ⟨g, 1, none⟩ (.int .i64 ((k : Int) + 1))) (some g) := g_own (g_drewN (g_own (g_refl w _) 2 _) n) 1 _
      have hb2 : ((w.setCell ⟨g, 2, none⟩ (.int .i64 y)).drewN n).heap[g]? = some (.cells #[.slice (some ⟨b, off, none⟩) len cap, .int .i64 (k : Int), .int .i64 y] 57 (0, 0)) := block_setCell hh (i := 2) (.int .i64 y)
      have hb3 := block_setCell hb2 (i := 1) (.int .i64 ((k : Int) + 1))
      simp only [List.setIfInBounds_toArray, List.set_cons_succ, List.set_cons_zero] at hb3
      exact ⟨x, hx0, hx1, rfl, ⟨hB, hlen, CodeAt.kept (.inr ⟨b, off, cap, zs, rfl, hb, hBs, hcell, hzs⟩) hg hB, k + 1, y, hkl, hb3⟩, hg⟩
  · have hsl : ∃ a cap, sl = .slice a len cap := by
      rcases hcode with ⟨rfl, a, cap, rfl⟩ | ⟨b, off, cap, zs, rfl, _⟩
      · exact ⟨_, _, rfl⟩
      · exact ⟨_, _, rfl⟩
    obtain ⟨a, cap, rfl⟩ := hsl
    refine (l1Byte_out g len cap k a h w hlen (by omega) (by omega) c0 c1 c2 (f 2)).mono fun e w' he => ?_
    obtain ⟨x, y, n, hx0, hx1, rfl, rfl⟩ := he
    have hg : w.grownBy ((w.setCell ⟨g, 2, none⟩ (.int .i64 y)).drewN n) (some g) := g_drewN (g_own (g_refl w _) 2 _) n
    exact ⟨x, hx0, hx1, rfl, ⟨hB, hlen, hcode.kept hg hB, k, y, hk, block_setCell hh (i := 2) (.int .i64 y)⟩, hg⟩

/-! ### numbers from 0 on -/
set_option maxHeartbeats 400000 in
theorem l1Below_any {B g len : Nat} {sl : Value} {w : World} (n : Int) (hn : 1 ≤ n) (hn2 : n ≤ 4611686018427387904) (hC : CurAt w B g sl len) :
    Calls Try.prog 23 #[.pointer (some ⟨g, 0, none⟩), .int .i64 n] w (Drawn B g sl len 0 (n - 1) w) := by
  by_cases h256 : n ≤ 256
  · go_enter Try.func23, Try.ntmps23
    go_wp2_with (go_at_call 37; refine (l1Byte_any hC).mono ?_; rintro e w1 ⟨x, hx0, hx1, rfl, hC1, hg1⟩)
    go_ret
    exact ⟨_, Int.emod_nonneg _ (by omega), by have := Int.emod_lt_of_pos x (show 0 < n by omega); omega, rfl, hC1, hg1⟩
  · go_enter Try.func23, Try.ntmps23
    go_wp2_with fail
    go_at_call 37; refine (l1Byte_any hC).mono ?_; rintro e w1 ⟨x1, a1, b1, rfl, hC1, hg1⟩
    go_wp2_with fail
    go_at_call 37; refine (l1Byte_any hC1).mono ?_; rintro e w2 ⟨x2, a2, b2, rfl, hC2, hg2⟩
    go_wp2_with fail
    go_at_call 37; refine (l1Byte_any hC2).mono ?_; rintro e w3 ⟨x3, a3, b3, rfl, hC3, hg3⟩
    go_wp2_with fail
    go_at_call 37; refine (l1Byte_any hC3).mono ?_; rintro e w4 ⟨x4, a4, b4, rfl, hC4, hg4⟩
    go_wp2
    go_ret
    exact ⟨_, Int.emod_nonneg _ (by omega), by have := Int.emod_lt_of_pos (x1 * 16777216 + x2 * 65536 + x3 * 256 + x4) (show 0 < n by omega); omega, rfl, hC4, g_trans (g_trans (g_trans hg1 hg2) hg3) hg4⟩

set_option maxHeartbeats 400000 in
theorem l1From_any {B g len : Nat} {sl : Value} {w : World} (lo hi : Int) (h0 : -1099511627776 ≤ lo) (h1 : lo ≤ hi) (h2 : hi ≤ 1099511627776) (hC : CurAt w B g sl len) :
    Calls Try.prog 21 #[.pointer (some ⟨g, 0, none⟩), .int .i64 lo, .int .i64 hi] w (Drawn B g sl len lo hi w) := by
  go_enter Try.func21, Try.ntmps21
  go_wp2_with fail
  go_at_call 23; refine (l1Below_any _ (by omega) (by omega) hC).mono ?_; rintro e w1 ⟨x, hx0, hx1, rfl, hC1, hg1⟩
  go_wp2
  go_ret
  exact ⟨_, by omega, by omega, rfl, hC1, hg1⟩

/-- a call that draws yes or no -/
def DrawnB (B g : Nat) (sl : Value) (len : Nat) (w : World) (e : Ending) (w' : World) : Prop :=
  ∃ x : Bool, e = .returned (.bool x) ∧ CurAt w' B g sl len ∧ w.grownBy w' (some g)
set_option maxHeartbeats 400000 in
theorem l1Once_any {B g len : Nat} {sl : Value} {w : World} (n : Int) (hn : 1 ≤ n) (hn2 : n ≤ 4611686018427387904) (hC : CurAt w B g sl len) :
    Calls Try.prog 22 #[.pointer (some ⟨g, 0, none⟩), .int .i64 n] w (DrawnB B g sl len w) := by
  go_enter Try.func22, Try.ntmps22
  go_wp2_with fail
  go_at_call 23; refine (l1Below_any _ hn hn2 hC).mono ?_; rintro e w1 ⟨x, hx0, hx1, rfl, hC1, hg1⟩
  go_wp2
  go_ret
  exact ⟨_, rfl, hC1, hg1⟩

set_option maxHeartbeats 400000 in
theorem l1Odd_any {B g len : Nat} {sl : Value} {w : World} (hC : CurAt w B g sl len) :
    Calls Try.prog 38 #[.pointer (some ⟨g, 0, none⟩)] w (Drawn B g sl len (-9223372036854775808) 9223372036854775807 w) := by
  have hlt := hC.lt
  go_enter Try.func38, Try.ntmps38
  go_wp2_with fail
  go_at_call 23; refine (l1Below_any _ (by omega) (by omega) (hC.alloc _)).mono ?_; rintro e w1 ⟨x, hx0, hx1, rfl, hC1, hg1⟩
  have hb : w1.heap[w.heap.size]? = _ := (hg1.block w.heap.size (by simp) (by simp; omega)).trans (heap_alloc_new w _)
  have c := fun i => cell_of_block hb i
  clear hb
  have hx : x = 0 ∨ x = 1 ∨ x = 2 ∨ x = 3 ∨ x = 4 ∨ x = 5 ∨ x = 6 ∨ x = 7 ∨ x = 8 ∨ x = 9 := by omega
  have hgg := g_trans (World.grownBy_alloc w _ (some g)) hg1
  clear hg1 hx0 hx1
  rcases hx with rfl | rfl | rfl | rfl | rfl | rfl | rfl | rfl | rfl | rfl
  · have k : w1.cell? ⟨w.heap.size, 0, none⟩ = some (.int .i64 (-1)) := c 0
    clear c
    go_wp2
    go_ret
    exact ⟨_, by decide, by decide, rfl, hC1, hgg⟩
  · have k : w1.cell? ⟨w.heap.size, 1, none⟩ = some (.int .i64 0) := c 1
    clear c
    go_wp2
    go_ret
    exact ⟨_, by decide, by decide, rfl, hC1, hgg⟩
  · have k : w1.cell? ⟨w.heap.size, 2, none⟩ = some (.int .i64 1) := c 2
    clear c
    go_wp2
    go_ret
    exact ⟨_, by decide, by decide, rfl, hC1, hgg⟩
  · have k : w1.cell? ⟨w.heap.size, 3, none⟩ = some (.int .i64 2147483648) := c 3
    clear c
    go_wp2
    go_ret
    exact ⟨_, by decide, by decide, rfl, hC1, hgg⟩
  · have k : w1.cell? ⟨w.heap.size, 4, none⟩ = some (.int .i64 (-2147483648)) := c 4
    clear c
    go_wp2
    go_ret
    exact ⟨_, by decide, by decide, rfl, hC1, hgg⟩
  · have k : w1.cell? ⟨w.heap.size, 5, none⟩ = some (.int .i64 1099511627776) := c 5
    clear c
    go_wp2
    go_ret
    exact ⟨_, by decide, by decide, rfl, hC1, hgg⟩
  · have k : w1.cell? ⟨w.heap.size, 6, none⟩ = some (.int .i64 4611686018427387904) := c 6
    clear c
    go_wp2
    go_ret
    exact ⟨_, by decide, by decide, rfl, hC1, hgg⟩
  · have k : w1.cell? ⟨w.heap.size, 7, none⟩ = some (.int .i64 (-4611686018427387904)) := c 7
    clear c
    go_wp2
    go_ret
    exact ⟨_, by decide, by decide, rfl, hC1, hgg⟩
  · have k : w1.cell? ⟨w.heap.size, 8, none⟩ = some (.int .i64 9223372036854775807) := c 8
    clear c
    go_wp2
    go_ret
    exact ⟨_, by decide, by decide, rfl, hC1, hgg⟩
  · have k : w1.cell? ⟨w.heap.size, 9, none⟩ = some (.int .i64 (-9223372036854775808)) := c 9
    clear c
    go_wp2
    go_ret
    exact ⟨_, by decide, by decide, rfl, hC1, hgg⟩

set_option maxHeartbeats 400000 in
theorem l1Num_any {B g len : Nat} {sl : Value} {w : World} (most : Int) (hm : 1 ≤ most) (hm2 : most ≤ 1099511627776) (hC : CurAt w B g sl len) :
    Calls Try.prog 24 #[.pointer (some ⟨g, 0, none⟩), .int .i64 most] w (Drawn B g sl len (-9223372036854775808) 9223372036854775807 w) := by
  have hlt := hC.lt
  go_enter Try.func24, Try.ntmps24
  go_wp2_with fail
  go_at_call 22; refine (l1Once_any _ (by omega) (by omega) hC).mono ?_; rintro e w1 ⟨q, rfl, hC1, hg1⟩
  cases q
  · go_wp2_with fail
    go_at_call 22; refine (l1Once_any _ (by omega) (by omega) hC1).mono ?_; rintro e w2 ⟨q, rfl, hC2, hg2⟩
    have hgg := g_trans hg1 hg2
    clear hg1 hg2
    cases q
    · go_wp2_with fail
      go_at_call 23; refine (l1Below_any _ (by omega) (by omega) hC2).mono ?_; rintro e w3 ⟨x, hx0, hx1, rfl, hC3, hg3⟩
      go_wp2
      go_ret
      exact ⟨_, by omega, by omega, rfl, hC3, g_trans hgg hg3⟩
    · have hmin : 1 ≤ minI most 4 ∧ minI most 4 ≤ 4 := by unfold minI; split <;> omega
      obtain ⟨m0, m1⟩ := hmin
      go_wp2_with fail
      go_at_call 33; refine (l1Min_any _ _ _).mono ?_; rintro e w' ⟨rfl, rfl⟩
      go_wp2_with fail
      go_at_call 23; refine (l1Below_any _ (by omega) (by omega) hC2).mono ?_; rintro e w3 ⟨x, hx0, hx1, rfl, hC3, hg3⟩
      go_wp2
      go_ret
      exact ⟨_, by omega, by omega, rfl, hC3, g_trans hgg hg3⟩
  · go_wp2_with fail
    go_at_call 38; refine (l1Odd_any hC1).mono ?_; rintro e w2 ⟨y, hy0, hy1, rfl, hC2, hg2⟩
    have hgg := g_trans hg1 hg2
    clear hg1 hg2
    have hlt2 := hC2.lt
    go_wp2_with fail
    go_at_call 23; refine (l1Below_any _ (by omega) (by omega) (hC2.alloc _)).mono ?_; rintro e w3 ⟨x, hx0, hx1, rfl, hC3, hg3⟩
    have hb : w3.heap[w2.heap.size]? = _ := (hg3.block w2.heap.size (by simp) (by simp; omega)).trans (heap_alloc_new w2 _)
    have c := fun i => cell_of_block hb i
    clear hb
    have hx : x = 0 ∨ x = 1 ∨ x = 2 ∨ x = 3 := by omega
    have hg4 := g_trans hgg (g_trans (World.grownBy_alloc w2 _ (some g)) hg3)
    clear hg3 hgg hx0 hx1
    rcases hx with rfl | rfl | rfl | rfl
    · have k : w3.cell? ⟨w2.heap.size, 0, none⟩ = some (.int .i64 (-1)) := c 0
      clear c
      go_wp2
      go_ret
      exact ⟨_, by decide, by decide, rfl, hC3, hg4⟩
    · have k : w3.cell? ⟨w2.heap.size, 1, none⟩ = some (.int .i64 most) := c 1
      clear c
      go_wp2
      go_ret
      exact ⟨_, by omega, by omega, rfl, hC3, hg4⟩
    · have k : w3.cell? ⟨w2.heap.size, 2, none⟩ = some (.int .i64 (most + 1)) := c 2
      clear c
      go_wp2
      go_ret
      exact ⟨_, by omega, by omega, rfl, hC3, hg4⟩
    · have k : w3.cell? ⟨w2.heap.size, 3, none⟩ = some (.int .i64 y) := c 3
      clear c
      go_wp2
      go_ret
      exact ⟨_, hy0, hy1, rfl, hC3, hg4⟩

/-- a call that draws a plan -/
def DrawnP (R : Int → Int → Int → Prop) (B g : Nat) (sl : Value) (len : Nat) (w : World) (e : Ending) (w' : World) : Prop :=
  ∃ a b c : Int, R a b c ∧ e = .returned (.agg #[.int .i64 a, .int .i64 b, .int .i64 c]) ∧ CurAt w' B g sl len ∧ w.grownBy w' (some g)
set_option maxHeartbeats 400000 in
theorem l1DrawPlan_any {B g len : Nat} {sl : Value} {w : World} (hC : CurAt w B g sl len) :
    Calls Try.prog 36 #[.pointer (some ⟨g, 0, none⟩)] w (DrawnP (fun a b c => (1 ≤ a ∧ a ≤ 3) ∧ (1 ≤ b ∧ b ≤ 4) ∧ 2 ≤ c ∧ c ≤ 9) B g sl len w) := by
  have hlt := hC.lt
  go_enter Try.func36, Try.ntmps36
  go_wp2_with fail
  go_at_call 23; refine (l1Below_any _ (by omega) (by omega) (hC.alloc _)).mono ?_; rintro e w1 ⟨x, hx0, hx1, rfl, hC1, hg1⟩
  go_wp2_with fail
  go_at_call 23; refine (l1Below_any _ (by omega) (by omega) hC1).mono ?_; rintro e w2 ⟨y, hy0, hy1, rfl, hC2, hg2⟩
  go_wp2_with fail
  go_at_call 23; refine (l1Below_any _ (by omega) (by omega) hC2).mono ?_; rintro e w3 ⟨z, hz0, hz1, rfl, hC3, hg3⟩
  have hgg := g_trans (g_trans hg1 hg2) hg3
  clear hg1 hg2 hg3
  have hb : w3.heap[w.heap.size]? = _ := (hgg.block w.heap.size (by simp) (by simp; omega)).trans (heap_alloc_new w _)
  have c0 : w3.cell? ⟨w.heap.size, 0, none⟩ = some (.int .i64 0) := cell_of_block hb 0
  have c1 : w3.cell? ⟨w.heap.size, 1, none⟩ = some (.int .i64 0) := cell_of_block hb 1
  have c2 : w3.cell? ⟨w.heap.size, 2, none⟩ = some (.int .i64 0) := cell_of_block hb 2
  have f0 := unfrozen_of_block hb 0
  have f1 := unfrozen_of_block hb 1
  have f2 := unfrozen_of_block hb 2
  have hg4 := g_trans (World.grownBy_alloc w _ (some g)) hgg
  clear hb hgg
  have hB := hC.base
  go_wp2
  exact bodyPost_ret (v := .agg #[.int .i64 (1 + x), .int .i64 (1 + y), .int .i64 (2 + z)]) (by simp [results, Try.results36, go_sem, c0, c1, c2]) rfl
    ⟨_, _, _, ⟨by omega, by omega, by omega⟩, rfl, ((hC3.set (by omega) (by omega) _ _).set (by omega) (by omega) _ _).set (by omega) (by omega) _ _, g_new (g_new (g_new hg4 (Nat.le_refl _) _ _) (Nat.le_refl _) _ _) (Nat.le_refl _) _ _⟩

set_option maxHeartbeats 400000 in
theorem l1DrawAny_any {B g len : Nat} {sl : Value} {w : World} (hC : CurAt w B g sl len) :
    Calls Try.prog 20 #[.pointer (some ⟨g, 0, none⟩)] w (DrawnP (fun _ _ _ => True) B g sl len w) := by
  have hlt := hC.lt
  have hB := hC.base
  go_enter Try.func20, Try.ntmps20
  go_wp2_with fail
  go_at_call 36; refine (l1DrawPlan_any (hC.alloc _)).mono ?_; rintro e w1 ⟨a, b, c, _, rfl, hC1, hg1⟩
  have hR := g_block hg1 (heap_alloc_new w _) (by omega)
  have hg2 := g_trans (World.grownBy_alloc w _ (some g)) hg1
  clear hg1
  have hs : w.heap.size < w1.heap.size := lt_of_block hR
  have hne : w.heap.size ≠ w1.heap.size := by omega
  go_wp2_with fail
  go_at_call 22; refine (l1Once_any _ (by omega) (by omega) (hC1.alloc _)).mono ?_; rintro e w2 ⟨q, rfl, hC2, hg3⟩
  have hlt1 := hC1.lt
  replace hR := g_block hg3 (alloc_block _ hR) (by omega)
  have hV := g_block hg3 (heap_alloc_new w1 _) (by omega)
  have hg4 := g_trans hg2 (g_trans (World.grownBy_alloc w1 _ (some g)) hg3)
  clear hg3 hg2
  cases q
  · obtain ⟨r0, r1, r2, p0, p1, p2⟩ := three hR
    obtain ⟨v0, v1, v2, q0, q1, q2⟩ := three hV
    clear hR hV
    go_wp2
    exact bodyPost_ret (v := .agg #[.int .i64 a, .int .i64 b, .int .i64 c]) (by simp [results, Try.results20, go_sem, r0, r1, r2]) rfl ⟨_, _, _, trivial, rfl, (((hC2.set (by omega) (by omega) _ _).set (by omega) (by omega) _ _).set (by omega) (by omega) _ _), (g_new (g_new (g_new hg4 (by omega) _ _) (by omega) _ _) (by omega) _ _)⟩
  · go_wp2_with fail
    go_at_call 23; refine (l1Below_any _ (by omega) (by omega) hC2).mono ?_; rintro e w3 ⟨x, hx0, hx1, rfl, hC3, hg5⟩
    replace hR := g_block hg5 hR (by omega)
    replace hV := g_block hg5 hV (by omega)
    replace hg4 := g_trans hg4 hg5
    clear hg5
    have hx : x = 0 ∨ x = 1 ∨ x = 2 := by omega
    clear hx0 hx1
    rcases hx with rfl | rfl | rfl
    · go_wp2_with fail
      go_at_call 24; refine (l1Num_any _ (by omega) (by omega) hC3).mono ?_; rintro e w4 ⟨y, _, _, rfl, hC4, hg5⟩
      replace hR := g_block hg5 hR (by omega)
      replace hV := g_block hg5 hV (by omega)
      replace hg4 := g_trans hg4 hg5
      clear hg5
      obtain ⟨r0, r1, r2, p0, p1, p2⟩ := three hR
      obtain ⟨v0, v1, v2, q0, q1, q2⟩ := three hV
      clear hR hV
      go_wp2
      exact bodyPost_ret (v := .agg #[.int .i64 y, .int .i64 b, .int .i64 c]) (by simp [results, Try.results20, go_sem, r0, r1, r2]) rfl ⟨_, _, _, trivial, rfl, ((((hC4.set (by omega) (by omega) _ _).set (by omega) (by omega) _ _).set (by omega) (by omega) _ _).set (by omega) (by omega) _ _), (g_new (g_new (g_new (g_new hg4 (by omega) _ _) (by omega) _ _) (by omega) _ _) (by omega) _ _)⟩
    · go_wp2_with fail
      go_at_call 24; refine (l1Num_any _ (by omega) (by omega) hC3).mono ?_; rintro e w4 ⟨y, _, _, rfl, hC4, hg5⟩
      replace hR := g_block hg5 hR (by omega)
      replace hV := g_block hg5 hV (by omega)
      replace hg4 := g_trans hg4 hg5
      clear hg5
      obtain ⟨r0, r1, r2, p0, p1, p2⟩ := three hR
      obtain ⟨v0, v1, v2, q0, q1, q2⟩ := three hV
      clear hR hV
      go_wp2
      exact bodyPost_ret (v := .agg #[.int .i64 a, .int .i64 y, .int .i64 c]) (by simp [results, Try.results20, go_sem, r0, r1, r2]) rfl ⟨_, _, _, trivial, rfl, ((((hC4.set (by omega) (by omega) _ _).set (by omega) (by omega) _ _).set (by omega) (by omega) _ _).set (by omega) (by omega) _ _), (g_new (g_new (g_new (g_new hg4 (by omega) _ _) (by omega) _ _) (by omega) _ _) (by omega) _ _)⟩
    · go_wp2_with fail
      go_at_call 24; refine (l1Num_any _ (by omega) (by omega) hC3).mono ?_; rintro e w4 ⟨y, _, _, rfl, hC4, hg5⟩
      replace hR := g_block hg5 hR (by omega)
      replace hV := g_block hg5 hV (by omega)
      replace hg4 := g_trans hg4 hg5
      clear hg5
      obtain ⟨r0, r1, r2, p0, p1, p2⟩ := three hR
      obtain ⟨v0, v1, v2, q0, q1, q2⟩ := three hV
      clear hR hV
      go_wp2
      exact bodyPost_ret (v := .agg #[.int .i64 a, .int .i64 b, .int .i64 y]) (by simp [results, Try.results20, go_sem, r0, r1, r2]) rfl ⟨_, _, _, trivial, rfl, ((((hC4.set (by omega) (by omega) _ _).set (by omega) (by omega) _ _).set (by omega) (by omega) _ _).set (by omega) (by omega) _ _), (g_new (g_new (g_new (g_new hg4 (by omega) _ _) (by omega) _ _) (by omega) _ _) (by omega) _ _)⟩

end Go.Proofs.Ytihekcmcdcenaaa
