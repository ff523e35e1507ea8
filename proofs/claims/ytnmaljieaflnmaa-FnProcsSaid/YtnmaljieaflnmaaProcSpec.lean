/-
  Processors (spec, chapter 4): what the model answers.
-/
import Derived.Test.YtnmaljieaflnmaaWorkIn
import Derived.Test.YtnmaljieaflnmaaTime
import Derived.Test.YtnmaljieaflnmaaMin
import Derived.Test.YtnmaljieaflnmaaHeapSpec
namespace Go.Proofs.Ytnmaljieaflnmaa
open Go.RowKit Go.Joins
set_option linter.unusedVariables false

abbrev prV (v : Value) (l e d : Int) : Value := .agg #[v, .int .i64 l, .int .i64 e, .int .i64 d]
/-- no Id twice: the slot i's is none of the first k ones' -/
def diffTo (f : Slots) (i : Nat) : Nat → Bool
  | 0 => true
  | k + 1 => diffTo f i k && !((f i).1 == (f k).1)
def diffAll (f : Slots) : Nat → Bool
  | 0 => true
  | i + 1 => diffAll f i && diffTo f i i
theorem diffTo_bad {f : Slots} {i k : Nat} (h : diffTo f i k = false) : ∀ m, k ≤ m → diffTo f i m = false
  | 0, hm => by rw [Nat.le_zero.1 hm] at h; exact h
  | m + 1, hm => by
    by_cases e : k = m + 1
    · rw [← e]; exact h
    · rw [diffTo, diffTo_bad h m (by omega), Bool.false_and]
theorem diffAll_bad {f : Slots} {i : Nat} (h : diffAll f i = false) : ∀ m, i ≤ m → diffAll f m = false
  | 0, hm => by rw [Nat.le_zero.1 hm] at h; exact h
  | m + 1, hm => by
    by_cases e : i = m + 1
    · rw [← e]; exact h
    · rw [diffAll, diffAll_bad h m (by omega), Bool.false_and]
theorem diff_found {f : Slots} {n i k : Nat} (hi : i < n) (hk : k < i) (h : (f i).1 = (f k).1) : diffAll f n = false := by
  have h1 : diffTo f i (k + 1) = false := by rw [diffTo, h]; simp
  exact diffAll_bad (show diffAll f (i + 1) = false by rw [diffAll, diffTo_bad h1 i (by omega), Bool.and_false]) n (by omega)
/-- is a processor right? -/
def procOkB (a b c : Int) (f : Slots) (n : Nat) (l e d : Int) : Bool :=
  planB a b c && (heapB f n && ((l == -1 || workB a b c l) && ((e == -1 || inB e 0 1000000000) && (inB d 0 n && diffAll f n))))
/-- when is it to wake? -/
def wakeI (f : Slots) (n : Nat) (e : Int) : Int := if n = 0 then maxI e (-1) else if e < 0 then (f 0).2 else minI (f 0).2 e

set_option maxRecDepth 100000 in
set_option maxHeartbeats 1000000 in
theorem spWakeOf_any {v : Value} {n : Nat} {f : Slots} (l e d : Int) {w : World} (hn : n ≤ 1048576) (h : RowAt w v n f) :
    Calls Try.prog 16 #[prV v l e d] w fun x w' => x = .returned (.int .i64 (wakeI f n e)) ∧ Below w.heap.size w w' := by
  have k0 := (Below.refl w.heap.size w).alloc (Nat.le_refl _) (.cells #[v, .int .i64 l, .int .i64 e, .int .i64 d] 28)
  have hr := h.below k0
  rcases hr with ⟨rfl, a, cap, rfl⟩ | ⟨b, off, cap, rfl, hl, hc⟩
  · rw [show wakeI f 0 e = maxI e (-1) from rfl]
    clear h
    go_enter Try.func16, Try.ntmps16
    go_wp2_with fail
    go_at_call 57; refine (l1Max_any _ _ _).mono ?_; rintro x w' ⟨rfl, rfl⟩
    go_wp2
    go_ret
    exact ⟨rfl, k0⟩
  · by_cases hz : n = 0
    · subst hz
      rw [show wakeI f 0 e = maxI e (-1) from rfl]
      clear h
      go_enter Try.func16, Try.ntmps16
      go_wp2_with fail
      go_at_call 57; refine (l1Max_any _ _ _).mono ?_; rintro x w' ⟨rfl, rfl⟩
      go_wp2
      go_ret
      exact ⟨rfl, k0⟩
    · obtain ⟨c0, c1⟩ := hc 0 (by omega)
      have hp : (0 : Int) < (n : Int) := by omega
      have hq : ((n : Int) == 0) = false := by rw [beq_eq_false_iff_ne]; omega
      have hbne : b ≠ w.heap.size := by
        rcases h with ⟨h0, _⟩ | ⟨b2, off2, cap2, e2, hl2, _⟩
        · exact absurd h0 hz
        · injection e2 with e2 _ _; injection e2 with e2; injection e2 with e2 _ _; omega
      clear hc h
      by_cases he : e < 0
      · rw [show wakeI f n e = (f 0).2 by rw [wakeI, if_neg hz, if_pos he]]
        have hd : decide (e < 0) = true := by simpa using he
        go_enter Try.func16, Try.ntmps16
        go_wp2
        go_ret
        exact ⟨rfl, k0⟩
      · rw [show wakeI f n e = minI (f 0).2 e by rw [wakeI, if_neg hz, if_neg he]]
        have hd : decide (e < 0) = false := by simpa using he
        go_enter Try.func16, Try.ntmps16
        go_wp2_with fail
        have hx := heap_alloc_new w (.cells #[.slice (some ⟨b, off, none⟩) n cap, .int .i64 l, .int .i64 e, .int .i64 d] 28)
        have x0 := cell_of_block hx 0
        have c1' : (w.alloc (.cells #[.slice (some ⟨b, off, none⟩) n cap, .int .i64 l, .int .i64 e, .int .i64 d] 28)).cell? ⟨b, off + 1, none⟩ = some (.int .i64 (f 0).2) := by simpa using c1
        have hpn : 0 < n := by omega
        have hpd : decide (0 < n) = true := by simpa using hpn
        clear c1 c0
        have x2 := cell_of_block hx 2
        go_region_held3 (fun w' => w'.cell? ⟨w.heap.size, 0, none⟩ = some (.slice (some ⟨b, off, none⟩) n cap) ∧ w'.cell? ⟨w.heap.size, 2, none⟩ = some (.int .i64 e) ∧ w'.cell? ⟨b, off + 1, none⟩ = some (.int .i64 (f 0).2))
          (first | exact ⟨x0, x2, c1'⟩ | go_keep)
          (first
            | (go_at_call 58; refine (l1Min_any _ _ _).mono ?_; rintro x w' ⟨rfl, rfl⟩))
        all_goals
          go_wp2
          go_ret
          exact ⟨rfl, k0.drew⟩

end Go.Proofs.Ytnmaljieaflnmaa
