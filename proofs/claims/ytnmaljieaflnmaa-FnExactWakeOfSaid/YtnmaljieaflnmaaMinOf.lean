/-
  The least of a list of numbers (the library's slices.Min).
-/
import Derived.Test.YtnmaljieaflnmaaIntList
namespace Go.Proofs.Ytnmaljieaflnmaa
open Go.RowKit Go.Joins
set_option linter.unusedVariables false

/-- the least of the first k + 1 -/
def leastI (f : Ints) : Nat → Int
  | 0 => f 0
  | k + 1 => if f (k + 1) < leastI f k then f (k + 1) else leastI f k

set_option maxRecDepth 100000 in
set_option maxHeartbeats 1000000 in
theorem minOf_any {v : Value} {n : Nat} {f : Ints} {w : World} (hn : n ≤ 1048576) (h0 : 0 < n) (h : RowIAt w v n f) :
    Calls Try.prog 115 #[v] w fun e w' => e = .returned (.int .i64 (leastI f (n - 1))) ∧ Below w.heap.size w w' := by
  rcases h with ⟨rfl, _⟩ | ⟨b, off, cap, rfl, hl, hc⟩
  · omega
  have H := Lib.hid hc
  have c0 : w.cell? ⟨b, off, none⟩ = some (.int .i64 (f 0)) := by simpa using hc 0 h0
  have hpos : (0 : Int) < (n : Int) := by omega
  have hge : ¬ (n : Int) < 1 := by omega
  have hged : decide (n < 1) = false := by simp; omega
  clear hc
  go_enter Try.func115, Try.ntmps115
  go_wp2_with fail
  go_loopw [3, 4] (fun m i wr => ∃ k : Nat, k + 1 ≤ n ∧ m = .int .i64 (leastI f k) ∧ i = .int .i64 ((k + 1 : Nat) : Int) ∧ Below w.heap.size w wr) (fun _ i _ => n - (intOf i).toNat)
  case atStart => exact ⟨0, h0, rfl, rfl, Below.refl _ _⟩
  case round =>
    obtain ⟨k, hk, rfl, rfl, hbw⟩ := hrel
    by_cases hlt : k + 1 < n
    · have c1 := (hbw.cell (p := ⟨b, off + (k + 1), none⟩) hl).trans (H.out (k + 1) hlt)
      have b2 : ((k + 1 : Nat) : Int) < (n : Int) := by omega
      by_cases hm : f (k + 1) < leastI f k
      · have hs : leastI f (k + 1) = f (k + 1) := by rw [leastI, if_pos hm]
        go_wp2
        exact ⟨⟨k + 1, by omega, by rw [hs], by go_num, hbw⟩, by simp only [intOf]; omega⟩
      · have hs : leastI f (k + 1) = leastI f k := by rw [leastI, if_neg hm]
        go_wp2
        exact ⟨⟨k + 1, by omega, by rw [hs], by go_num, hbw⟩, by simp only [intOf]; omega⟩
    · have b2 : ¬ ((k + 1 : Nat) : Int) < (n : Int) := by omega
      have hd : decide (k + 1 < n) = false := by simp; omega
      have hk1 : n - 1 = k := by omega
      have ha := Lib.hid (show leastI f k = leastI f (n - 1) by rw [hk1])
      clear hk1
      go_wp2
      go_ret
      exact ⟨ret_i64 ha.out, hbw⟩

end Go.Proofs.Ytnmaljieaflnmaa
