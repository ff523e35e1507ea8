/-
  The draws: the code, a cursor over its bytes, and the numbers that it gives; nothing but its own block is written.
-/
import Derived.Test.YthhpnepcfpapcaaIn
import Derived.OpenShut
import Derived.ChangeOld
namespace Go.Proofs.Ythhpnepcfpapcaa
open Go.RowKit Go.Joins Go.ChangeShapes Go.WideShapes Go.ChangeAt
set_option linter.unusedVariables false

/-! ### The code and the cursor -/
/-- the bytes of the code: no memory at all, or bytes that can be read, in a block below B -/
def CodeAt (w : World) (B : Nat) (sl : Value) (len : Nat) : Prop :=
  (len = 0 ∧ ∃ (a : Option Addr) (cap : Nat), sl = .slice a 0 cap) ∨ ∃ (b off cap : Nat) (zs : List Int), sl = .slice (some ⟨b, off, none⟩) len cap ∧ b < B ∧ B ≤ w.heap.size ∧ (∀ k, k < len → w.cell? ⟨b, off + k, none⟩ = some (.int .u8 (zs.getD k 0))) ∧ ∀ k, 0 ≤ zs.getD k 0 ∧ zs.getD k 0 ≤ 255
theorem CodeAt.kept {w w' : World} {B len g : Nat} {sl : Value} (h : CodeAt w B sl len) (hg : w.grownBy w' (some g)) (hB : B ≤ g) : CodeAt w' B sl len := by
  rcases h with h | ⟨b, off, cap, zs, h1, h2, h3, h4, h5⟩
  · exact .inl h
  · exact .inr ⟨b, off, cap, zs, h1, h2, Nat.le_trans h3 hg.size, fun k hk => (g_cell hg (by omega) (by omega) _).trans (h4 k hk), h5⟩
def ByteIn (g k : Nat) (w : World) (e : Ending) (w' : World) : Prop :=
  ∃ (x y : Int) (n : Nat), 0 ≤ x ∧ x ≤ 255 ∧ e = .returned (.int .i64 x) ∧ w' = (((w.setCell ⟨g, 2, none⟩ (.int .i64 y)).drewN n).setCell ⟨g, 1, none⟩ (.int .i64 ((k : Int) + 1)))
def ByteOut (g : Nat) (w : World) (e : Ending) (w' : World) : Prop :=
  ∃ (x y : Int) (n : Nat), 0 ≤ x ∧ x ≤ 255 ∧ e = .returned (.int .i64 x) ∧ w' = ((w.setCell ⟨g, 2, none⟩ (.int .i64 y)).drewN n)

/-! ### numbers from 0 on -/
theorem CodeAt.below {w w' : World} {B len : Nat} {sl : Value} (h : CodeAt w B sl len) (hb : Below B w w') : CodeAt w' B sl len := by
  rcases h with h | ⟨b, off, cap, zs, h1, h2, h3, h4, h5⟩
  · exact .inl h
  · exact .inr ⟨b, off, cap, zs, h1, h2, Nat.le_trans h3 hb.size, fun k hk => (hb.cell (p := ⟨b, off + k, none⟩) h2).trans (h4 k hk), h5⟩

end Go.Proofs.Ythhpnepcfpapcaa
