/-
  The draws: the code, a cursor over its bytes, and the numbers that it gives; nothing but its own block is written.
-/
import Derived.Test.YtnmaljieaflnmaaIn
import Derived.OpenShut
import Derived.ChangeOld
namespace Go.Proofs.Ytnmaljieaflnmaa
open Go.RowKit Go.Joins Go.ChangeShapes Go.WideShapes Go.ChangeAt
set_option linter.unusedVariables false

/-! ### The code and the cursor -/
/-- the bytes of the code: no memory at all, or bytes that can be read, in a block below B -/
def CodeAt (w : World) (B : Nat) (sl : Value) (len : Nat) : Prop :=
  (len = 0 ∧ ∃ (a : Option Addr) (cap : Nat), sl = .slice a 0 cap) ∨ ∃ (b off cap : Nat) (zs : List Int), sl = .slice (some ⟨b, off, none⟩) len cap ∧ b < B ∧ B ≤ w.heap.size ∧ (∀ k, k < len → w.cell? ⟨b, off + k, none⟩ = some (.int .u8 (zs.getD k 0))) ∧ ∀ k, 0 ≤ zs.getD k 0 ∧ zs.getD k 0 ≤ 255
theorem CodeAt.kept {w w' : World} {B len g : Nat} {sl : Value} (h : CodeAt w B sl len) (hg : w.grownBy w' (some g)) (hB : B ≤ g) : CodeAt w' B sl len := by
  rcases h with h | ⟨b, off, cap, zs, h1, h2, h3, h4, h5⟩
  · exact .inl h
  · exact .inr ⟨b, off, cap, zs, h1, h2, Nat.le_trans h3 hg.size, fun k hk => (g_cell hg (by omega) (by omega) _).trans (h4 k hk), h5⟩
/-- the cursor's block -/
def CurAt (w : World) (B g : Nat) (sl : Value) (len : Nat) : Prop :=
  B ≤ g ∧ len ≤ 4096 ∧ CodeAt w B sl len ∧ ∃ (k : Nat) (h : Int), k ≤ len ∧ w.heap[g]? = some (.cells #[sl, .int .i64 (k : Int), .int .i64 h] 114 (0, 0))
theorem CurAt.lt {w : World} {B g len : Nat} {sl : Value} (h : CurAt w B g sl len) : g < w.heap.size := by
  obtain ⟨_, _, _, k, x, _, hh⟩ := h
  exact lt_of_block hh
theorem CurAt.alloc {w : World} {B g len : Nat} {sl : Value} (h : CurAt w B g sl len) (o : Obj) : CurAt (w.alloc o) B g sl len := by
  have hl := h.lt
  obtain ⟨h1, h2, h3, k, x, hk, hh⟩ := h
  exact ⟨h1, h2, h3.kept (World.grownBy_alloc w o (some g)) h1, k, x, hk, (Below.heap_alloc w o g hl).trans hh⟩
theorem CurAt.kept {w w' : World} {B g b len : Nat} {sl : Value} (h : CurAt w B g sl len) (hk : w.grownBy w' (some b)) (hb : B ≤ b) (hn : b ≠ g) : CurAt w' B g sl len := by
  have hl := h.lt
  obtain ⟨h1, h2, h3, k, x, hk1, hh⟩ := h
  exact ⟨h1, h2, h3.kept hk hb, k, x, hk1, (hk.block g hl (by intro e; injection e; omega)).trans hh⟩
theorem CurAt.set {w : World} {B g len : Nat} {sl : Value} (h : CurAt w B g sl len) {b : Nat} (hb : B ≤ b) (hn : b ≠ g) (o : Nat) (u : Value) : CurAt (w.setCell ⟨b, o, none⟩ u) B g sl len :=
  h.kept (g_own (g_refl w _) o u) hb hn
theorem CurAt.base {w : World} {B g len : Nat} {sl : Value} (h : CurAt w B g sl len) : B ≤ g := h.1
/-- a call that draws a number from lo to hi -/
def Drawn (B g : Nat) (sl : Value) (len : Nat) (lo hi : Int) (w : World) (e : Ending) (w' : World) : Prop :=
  ∃ x : Int, lo ≤ x ∧ x ≤ hi ∧ e = .returned (.int .i64 x) ∧ CurAt w' B g sl len ∧ w.grownBy w' (some g)

def ByteIn (g k : Nat) (w : World) (e : Ending) (w' : World) : Prop :=
  ∃ (x y : Int) (n : Nat), 0 ≤ x ∧ x ≤ 255 ∧ e = .returned (.int .i64 x) ∧ w' = (((w.setCell ⟨g, 2, none⟩ (.int .i64 y)).drewN n).setCell ⟨g, 1, none⟩ (.int .i64 ((k : Int) + 1)))
def ByteOut (g : Nat) (w : World) (e : Ending) (w' : World) : Prop :=
  ∃ (x y : Int) (n : Nat), 0 ≤ x ∧ x ≤ 255 ∧ e = .returned (.int .i64 x) ∧ w' = ((w.setCell ⟨g, 2, none⟩ (.int .i64 y)).drewN n)

set_option maxHeartbeats 400000 in
theorem l1Byte_in (g b off len cap k : Nat) (h z : Int) (w : World) (hlen : len ≤ 4096) (hk : k < len)
    (h0 : w.cell? ⟨g, 0, none⟩ = some (.slice (some ⟨b, off, none⟩) len cap)) (h1 : w.cell? ⟨g, 1, none⟩ = some (.int .i64 (k : Int))) (h2 : w.cell? ⟨g, 2, none⟩ = some (.int .i64 h))
    (f1 : w.frozen? ⟨g, 1, none⟩ = false) (f2 : w.frozen? ⟨g, 2, none⟩ = false) (hne : b ≠ g) (hc : w.cell? ⟨b, off + k, none⟩ = some (.int .u8 z)) :
    Calls Try.prog 87 #[.pointer (some ⟨g, 0, none⟩)] w (ByteIn g k w) := by
  go_enter Try.func87, Try.ntmps87
  go_wp2
  go_quiet (fail)
  go_wp2
  go_quiet (fail)
  go_wp2
  go_quiet (fail)
  go_wp2
  go_ret
  exact ⟨_, _, _, (and_i64 _ _ (by decide) (by decide)).1, (and_i64 _ _ (by decide) (by decide)).2, rfl, rfl⟩

set_option maxHeartbeats 400000 in
theorem l1Byte_out (g len cap k : Nat) (a : Option Addr) (h : Int) (w : World) (hlen : len ≤ 4096) (hk : len ≤ k) (hk2 : k ≤ 4096)
    (h0 : w.cell? ⟨g, 0, none⟩ = some (.slice a len cap)) (h1 : w.cell? ⟨g, 1, none⟩ = some (.int .i64 (k : Int))) (h2 : w.cell? ⟨g, 2, none⟩ = some (.int .i64 h))
    (f2 : w.frozen? ⟨g, 2, none⟩ = false) :
    Calls Try.prog 87 #[.pointer (some ⟨g, 0, none⟩)] w (ByteOut g w) := by
  go_enter Try.func87, Try.ntmps87
  go_wp2
  go_quiet (fail)
  go_wp2
  go_quiet (fail)
  go_wp2
  simp only [World.drewN_drewN]
  go_ret
  exact ⟨_, _, _, (and_i64 _ _ (by decide) (by decide)).1, (and_i64 _ _ (by decide) (by decide)).2, rfl, rfl⟩

theorem l1Byte_any {B g len : Nat} {sl : Value} {w : World} (hC : CurAt w B g sl len) :
    Calls Try.prog 87 #[.pointer (some ⟨g, 0, none⟩)] w (Drawn B g sl len 0 255 w) := by
  have hlt := hC.lt
  obtain ⟨hB, hlen, hcode, k, h, hk, hh⟩ := hC
  have f := unfrozen_of_block hh
  have c0 : w.cell? ⟨g, 0, none⟩ = some sl := cell_of_block hh 0
  have c1 : w.cell? ⟨g, 1, none⟩ = some (.int .i64 (k : Int)) := cell_of_block hh 1
  have c2 : w.cell? ⟨g, 2, none⟩ = some (.int .i64 h) := cell_of_block hh 2
  by_cases hkl : k < len
  · rcases hcode with ⟨hz, _⟩ | ⟨b, off, cap, zs, rfl, hb, hBs, hcell, hzs⟩
    · omega
    · refine (l1Byte_in g b off len cap k h _ w hlen hkl c0 c1 c2 (f 1) (f 2) (by omega) (hcell k hkl)).mono fun e w' he => ?_
      obtain ⟨x, y, n, hx0, hx1, rfl, rfl⟩ := he
      have hg : w.grownBy (((w.setCell ⟨g, 2, none⟩ (.int .i64 y)).drewN n).setCell ⟨g, 1, none⟩ (.int .i64 ((k : Int) + 1))) (some g) := g_own (g_drewN (g_own (g_refl w _) 2 _) n) 1 _
      have hb2 : ((w.setCell ⟨g, 2, none⟩ (.int .i64 y)).drewN n).heap[g]? = some (.cells #[.slice (some ⟨b, off, none⟩) len cap, .int .i64 (k : Int), .int .i64 y] 114 (0, 0)) := block_setCell hh (i := 2) (.int .i64 y)
      have hb3 := block_setCell hb2 (i := 1) (.int .i64 ((k : Int) + 1))
      simp only [List.setIfInBounds_toArray, List.set_cons_succ, List.set_cons_zero] at hb3
      exact ⟨x, hx0, hx1, rfl, ⟨hB, hlen, CodeAt.kept (.inr ⟨b, off, cap, zs, rfl, hb, hBs, hcell, hzs⟩) hg hB, k + 1, y, hkl, hb3⟩, hg⟩
  · have hsl : ∃ a cap, sl = .slice a len cap := by
      rcases hcode with ⟨rfl, a, cap, rfl⟩ | ⟨b, off, cap, zs, rfl, _⟩
      · exact ⟨_, _, rfl⟩
      · exact ⟨_, _, rfl⟩
    obtain ⟨a, cap, rfl⟩ := hsl
    refine (l1Byte_out g len cap k a h w hlen (by omega) (by omega) c0 c1 c2 (f 2)).mono fun e w' he => ?_
    obtain ⟨x, y, n, hx0, hx1, rfl, rfl⟩ := he
    have hg : w.grownBy ((w.setCell ⟨g, 2, none⟩ (.int .i64 y)).drewN n) (some g) := g_drewN (g_own (g_refl w _) 2 _) n
    exact ⟨x, hx0, hx1, rfl, ⟨hB, hlen, hcode.kept hg hB, k, y, hk, block_setCell hh (i := 2) (.int .i64 y)⟩, hg⟩

/-! ### numbers from 0 on -/
set_option maxHeartbeats 400000 in
theorem l1Below_any {B g len : Nat} {sl : Value} {w : World} (n : Int) (hn : 1 ≤ n) (hn2 : n ≤ 4611686018427387904) (hC : CurAt w B g sl len) :
    Calls Try.prog 43 #[.pointer (some ⟨g, 0, none⟩), .int .i64 n] w (Drawn B g sl len 0 (n - 1) w) := by
  by_cases h256 : n ≤ 256
  · go_enter Try.func43, Try.ntmps43
    go_wp2_with (go_at_call 87; refine (l1Byte_any hC).mono ?_; rintro e w1 ⟨x, hx0, hx1, rfl, hC1, hg1⟩)
    go_ret
    exact ⟨_, Int.emod_nonneg _ (by omega), by have := Int.emod_lt_of_pos x (show 0 < n by omega); omega, rfl, hC1, hg1⟩
  · go_enter Try.func43, Try.ntmps43
    go_wp2_with fail
    go_at_call 87; refine (l1Byte_any hC).mono ?_; rintro e w1 ⟨x1, a1, b1, rfl, hC1, hg1⟩
    go_wp2_with fail
    go_at_call 87; refine (l1Byte_any hC1).mono ?_; rintro e w2 ⟨x2, a2, b2, rfl, hC2, hg2⟩
    go_wp2_with fail
    go_at_call 87; refine (l1Byte_any hC2).mono ?_; rintro e w3 ⟨x3, a3, b3, rfl, hC3, hg3⟩
    go_wp2_with fail
    go_at_call 87; refine (l1Byte_any hC3).mono ?_; rintro e w4 ⟨x4, a4, b4, rfl, hC4, hg4⟩
    go_wp2
    go_ret
    exact ⟨_, Int.emod_nonneg _ (by omega), by have := Int.emod_lt_of_pos (x1 * 16777216 + x2 * 65536 + x3 * 256 + x4) (show 0 < n by omega); omega, rfl, hC4, g_trans (g_trans (g_trans hg1 hg2) hg3) hg4⟩

set_option maxHeartbeats 400000 in
theorem l1From_any {B g len : Nat} {sl : Value} {w : World} (lo hi : Int) (h0 : -1099511627776 ≤ lo) (h1 : lo ≤ hi) (h2 : hi ≤ 1099511627776) (hC : CurAt w B g sl len) :
    Calls Try.prog 45 #[.pointer (some ⟨g, 0, none⟩), .int .i64 lo, .int .i64 hi] w (Drawn B g sl len lo hi w) := by
  go_enter Try.func45, Try.ntmps45
  go_wp2_with fail
  go_at_call 43; refine (l1Below_any _ (by omega) (by omega) hC).mono ?_; rintro e w1 ⟨x, hx0, hx1, rfl, hC1, hg1⟩
  go_wp2
  go_ret
  exact ⟨_, by omega, by omega, rfl, hC1, hg1⟩

/-- a call that draws yes or no -/
def DrawnB (B g : Nat) (sl : Value) (len : Nat) (w : World) (e : Ending) (w' : World) : Prop :=
  ∃ x : Bool, e = .returned (.bool x) ∧ CurAt w' B g sl len ∧ w.grownBy w' (some g)
set_option maxHeartbeats 400000 in
theorem l1Once_any {B g len : Nat} {sl : Value} {w : World} (n : Int) (hn : 1 ≤ n) (hn2 : n ≤ 4611686018427387904) (hC : CurAt w B g sl len) :
    Calls Try.prog 42 #[.pointer (some ⟨g, 0, none⟩), .int .i64 n] w (DrawnB B g sl len w) := by
  go_enter Try.func42, Try.ntmps42
  go_wp2_with fail
  go_at_call 43; refine (l1Below_any _ hn hn2 hC).mono ?_; rintro e w1 ⟨x, hx0, hx1, rfl, hC1, hg1⟩
  go_wp2
  go_ret
  exact ⟨_, rfl, hC1, hg1⟩

theorem CodeAt.below {w w' : World} {B len : Nat} {sl : Value} (h : CodeAt w B sl len) (hb : Below B w w') : CodeAt w' B sl len := by
  rcases h with h | ⟨b, off, cap, zs, h1, h2, h3, h4, h5⟩
  · exact .inl h
  · exact .inr ⟨b, off, cap, zs, h1, h2, Nat.le_trans h3 hb.size, fun k hk => (hb.cell (p := ⟨b, off + k, none⟩) h2).trans (h4 k hk), h5⟩

/-- a cursor made new: one new block -/
def NewCur (sl : Value) (w : World) (e : Ending) (w' : World) : Prop :=
  ∃ h : Int, e = .returned (.pointer (some ⟨w.heap.size, 0, none⟩)) ∧ w' = w.alloc (.cells #[sl, .int .i64 0, .int .i64 h] 114)

set_option maxHeartbeats 400000 in
theorem l1New_some (b off len cap : Nat) (zs : List Int) (w : World) (hlen : len ≤ 4096) (hcell : ∀ k, k < len → w.cell? ⟨b, off + k, none⟩ = some (.int .u8 (zs.getD k 0))) :
    Calls Try.prog 39 #[.slice (some ⟨b, off, none⟩) len cap] w (NewCur (.slice (some ⟨b, off, none⟩) len cap) w) := by
  have H := Lib.hid hcell
  clear hcell
  go_enter Try.func39, Try.ntmps39
  go_wp2
  go_loop [3, 4] (fun h i => ∃ (k : Nat) (x : Int), k ≤ len ∧ i = .int .i64 k ∧ h = .int .i64 x) (fun _ i => len - (intOf i).toNat)
  case atStart => exact ⟨0, _, Nat.zero_le _, rfl, rfl⟩
  case round =>
    obtain ⟨k, x, hk, rfl, rfl⟩ := hrel
    by_cases hlt : k < len
    · have hc := H.out k hlt
      go_wp2
      go_round
      case rel => exact ⟨k + 1, _, by omega, by go_num, rfl⟩
      case measure => simp [intOf]; omega
    · go_wp2
      go_ret
      exact ⟨_, rfl, rfl⟩

set_option maxHeartbeats 400000 in
theorem l1New_none (a : Option Addr) (cap : Nat) (w : World) :
    Calls Try.prog 39 #[.slice a 0 cap] w (NewCur (.slice a 0 cap) w) := by
  go_enter Try.func39, Try.ntmps39
  go_wp2
  go_loop [3, 4] (fun h i => i = .int .i64 0 ∧ ∃ x : Int, h = .int .i64 x) (fun _ i => 0)
  case atStart => exact ⟨rfl, _, rfl⟩
  case round =>
    obtain ⟨rfl, x, rfl⟩ := hrel
    go_wp2
    go_ret
    exact ⟨_, rfl, rfl⟩

theorem l1New_any {B len : Nat} {sl : Value} {w : World} (n : Nat) (hn : n = w.heap.size) (hlen : len ≤ 4096) (hcode : CodeAt w B sl len) (hB : B ≤ n) :
    Calls Try.prog 39 #[sl] w fun e w' => e = .returned (.pointer (some ⟨n, 0, none⟩)) ∧ CurAt w' B n sl len ∧ Below n w w' := by
  subst hn
  have core : Calls Try.prog 39 #[sl] w (NewCur sl w) := by
    rcases hcode with ⟨rfl, a, cap, rfl⟩ | ⟨b, off, cap, zs, rfl, h2, h3, h4, h5⟩
    · exact l1New_none a cap w
    · exact l1New_some b off len cap zs w hlen h4
  refine core.mono fun e w' he => ?_
  obtain ⟨h, rfl, rfl⟩ := he
  exact ⟨rfl, ⟨hB, hlen, hcode.kept (World.grownBy_alloc w _ (some w.heap.size)) hB, 0, h, Nat.zero_le _, heap_alloc_new w _⟩, (Below.refl _ _).alloc (Nat.le_refl _) _⟩

set_option maxRecDepth 100000 in
/-- a code that came in, as data: what the walk is told of it -/
theorem code_in {H : Type} {enc : TypeId × Value → H} {W : World} {base : Nat} {v : Value} {d : DataW H} {p : List MemPlace}
    (hv : Value.okWide Try.prog W .any base 22 v) (h : DataW.Trod enc Try.prog W 0 (fun _ => true) true 22 v d p) :
    ∃ (a : Option Addr) (len cap : Nat), v = .slice a len cap ∧ len ≤ maxLen ∧ CodeAt W W.heap.size v len := by
  obtain ⟨a, len, cap, rfl⟩ := okWide_slice Try.underlying22 hv
  obtain ⟨fuel, hf⟩ := h
  rcases open_ints Try.underlying22 Try.underlying5 (by kernel_rfl) hf with ⟨hcs, _⟩ | ⟨x, l, c, zs, hcs, _, hl, hm, hz, _, hcell, hwz⟩
  · simp [Value.cells] at hcs
    obtain ⟨rfl, rfl, rfl⟩ := hcs
    exact ⟨_, _, _, rfl, Nat.zero_le _, .inl ⟨rfl, _, _, rfl⟩⟩
  · simp [Value.cells] at hcs
    obtain ⟨rfl, rfl, rfl⟩ := hcs
    refine ⟨_, _, _, rfl, Nat.le_trans hl hm, ?_⟩
    rcases Nat.eq_zero_or_pos len with rfl | hp
    · exact .inl ⟨rfl, _, _, rfl⟩
    · have hzl : zs.length = cap := by simpa using hz
      obtain ⟨b, off, rfl, hc⟩ := ints_at hcell (by omega)
      have hb : b < W.heap.size := World.block_lt_of_cell? W _ (hc 0 (by omega))
      refine .inr ⟨b, off, cap, zs, rfl, hb, Nat.le_refl _, fun k hk => hc k (by omega), fun k => ?_⟩
      rw [List.getD_eq_getElem?_getD]
      cases hg : zs[k]? with
      | none => simp
      | some z =>
        have hw := hwz z (List.mem_of_getElem? hg)
        have := bounds_u8 hw
        simpa using this

end Go.Proofs.Ytnmaljieaflnmaa
