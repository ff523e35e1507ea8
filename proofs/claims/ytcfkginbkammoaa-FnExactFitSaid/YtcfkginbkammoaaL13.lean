/-
  The program's generic list that is told what is less (chapter 2), at slots: its small methods.
-/
import Derived.Test.YtcfkginbkammoaaL10
import Derived.Test.YtcfkginbkammoaaL00
import Derived.Laws.EntriesVeiled
import Derived.Test.YtcfkginbkammoaaL02
import Derived.Test.YtcfkginbkammoaaL09
namespace Go.Proofs.Ytcfkginbkammoaa
open Go.RowKit Go.Joins
set_option linter.unusedVariables false

/-- what is less, as a value -/
abbrev dueV : Value := .func (.func 85) #[] #[]
/-- a heap of the program's, as a value -/
abbrev heapV (v : Value) : Value := .agg #[v, dueV]

set_option maxHeartbeats 400000 in
theorem hSize_any {v : Value} {n : Nat} {w : World} (hn : n ≤ 1048577) (hv : ∃ a cap, v = .slice a n cap) :
    Calls Try.prog 91 #[heapV v] w fun e w' => e = .returned (.int .i64 n) ∧ Below w.heap.size w w' := by
  obtain ⟨a, cap, rfl⟩ := hv
  go_enter Try.func91, Try.ntmps91
  go_wp2
  go_ret
  exact ⟨rfl, (Below.refl _ _).alloc (Nat.le_refl _) _⟩

set_option maxHeartbeats 400000 in
theorem dueBefore_any (a b c d : Int) (w : World) :
    Calls Try.prog 85 #[.agg #[.int .i64 a, .int .i64 b], .agg #[.int .i64 c, .int .i64 d]] w fun e w' => e = .returned (.bool (decide (b < d))) ∧ Below w.heap.size w w' := by
  go_enter Try.func85, Try.ntmps85
  go_wp2
  go_ret
  exact ⟨rfl, ((Below.refl _ _).alloc (Nat.le_refl _) _).alloc (by simp) _⟩

set_option maxHeartbeats 400000 in
theorem parentOf_any (i : Int) (w : World) (h0 : -9223372036854775808 < i) (h1 : i < 9223372036854775808) :
    Calls Try.prog 93 #[.int .i64 i] w fun e w' => e = .returned (.int .i64 ((i - 1).tdiv 4)) ∧ w = w' := by
  go_enter Try.func93, Try.ntmps93
  go_wp2
  go_ret
  exact ⟨rfl, rfl⟩

set_option maxRecDepth 100000 in
set_option maxHeartbeats 1000000 in
theorem hLess_is {v : Value} {n : Nat} {f : Slots} {i j : Nat} (x : Bool) (hx : decide ((f i).2 < (f j).2) = x) {w : World} (hn : n ≤ 1048577) (hi : i < n) (hj : j < n) (h : RowAt w v n f) :
    Calls Try.prog 92 #[heapV v, .int .i64 i, .int .i64 j] w fun e w' => e = .returned (.bool x) ∧ Below w.heap.size w w' := by
  rcases h with ⟨rfl, _⟩ | ⟨b, off, cap, rfl, hl, hc⟩
  · omega
  have hb0 := (Below.refl w.heap.size w).alloc (Nat.le_refl _) (.cells #[.slice (some ⟨b, off, none⟩) n cap, dueV] 107)
  have HB := heap_alloc_new w (.cells #[.slice (some ⟨b, off, none⟩) n cap, dueV] 107)
  have x0 := cell_of_block HB 0
  have x1 := cell_of_block HB 1
  have i0 := (hb0.cell (p := ⟨b, off + i * 2, none⟩) hl).trans (hc i hi).1
  have i1 := (hb0.cell (p := ⟨b, off + i * 2 + 1, none⟩) hl).trans (hc i hi).2
  have j0 := (hb0.cell (p := ⟨b, off + j * 2, none⟩) hl).trans (hc j hj).1
  have j1 := (hb0.cell (p := ⟨b, off + j * 2 + 1, none⟩) hl).trans (hc j hj).2
  have hs0 : w.heap.size < (w.alloc (.cells #[.slice (some ⟨b, off, none⟩) n cap, dueV] 107)).heap.size := by simp
  have hs1 : b < (w.alloc (.cells #[.slice (some ⟨b, off, none⟩) n cap, dueV] 107)).heap.size := Nat.lt_trans hl hs0
  have hii : (i : Int) < (n : Int) := by omega
  have hjj : (j : Int) < (n : Int) := by omega
  clear HB hc
  go_enter Try.func92, Try.ntmps92
  go_wp2_with fail
  go_region_held3 (fun w' => w'.cell? ⟨w.heap.size, 0, none⟩ = some (.slice (some ⟨b, off, none⟩) n cap) ∧ w'.cell? ⟨w.heap.size, 1, none⟩ = some dueV
      ∧ w'.cell? ⟨b, off + i * 2, none⟩ = some (.int .i64 (f i).1) ∧ w'.cell? ⟨b, off + i * 2 + 1, none⟩ = some (.int .i64 (f i).2)
      ∧ w'.cell? ⟨b, off + j * 2, none⟩ = some (.int .i64 (f j).1) ∧ w'.cell? ⟨b, off + j * 2 + 1, none⟩ = some (.int .i64 (f j).2))
    (first | exact ⟨x0, x1, i0, i1, j0, j1⟩ | exact ⟨y0, y1, y2, y3, y4, y5⟩ | go_keep)
    (first
      | (go_at_call 85; refine (dueBefore_any _ _ _ _ _).mono ?_; rintro e w1 ⟨rfl, hb⟩
         have y0 := (hb.cell (p := ⟨w.heap.size, 0, none⟩) hs0).trans x0; have y1 := (hb.cell (p := ⟨w.heap.size, 1, none⟩) hs0).trans x1
         have y2 := (hb.cell (p := ⟨b, off + i * 2, none⟩) hs1).trans i0; have y3 := (hb.cell (p := ⟨b, off + i * 2 + 1, none⟩) hs1).trans i1
         have y4 := (hb.cell (p := ⟨b, off + j * 2, none⟩) hs1).trans j0; have y5 := (hb.cell (p := ⟨b, off + j * 2 + 1, none⟩) hs1).trans j1))
  all_goals
    go_wp2
    go_ret
    exact ⟨rfl, hb0.drew.trans (hb.mono hb0.drew.size)⟩

end Go.Proofs.Ytcfkginbkammoaa

/-
  The exact laws on heaps, told what the program's own functions answer.
-/
namespace Go.Proofs.Ytcfkginbkammoaa
open Go.RowKit Go.Joins
set_option linter.unusedVariables false

/-- what a sift of the program's is to answer -/
def Sifts (fn : FuncId) (M : Slots → Nat → Int → Slots) : Prop := ∀ (v : Value) (n : Nat) (f : Slots) (i : Int) (w : World), n ≤ 1048576 → RowAt w v n f → Calls Try.prog fn #[v, .int .i64 i] w (NewRow n (M f n i) w)
/-- the law's size test: too long -/
theorem big_n {n : Nat} (h : ¬ n ≤ 1048576) : (if (1048576 : Int) < (n : Int) then (-1 : Int) else 1048576 - (n : Int)) = -1 := if_pos (by omega)
theorem small_n {n : Nat} (h : n ≤ 1048576) : (if (1048576 : Int) < (n : Int) then (-1 : Int) else 1048576 - (n : Int)) = 1048576 - (n : Int) := if_neg (by omega)

/-! ### exRaised -/
/-! ### exSunk -/
/-- what a question of the program's is to answer -/
def AsksB (fn : FuncId) (M : Slots → Nat → Bool) : Prop := ∀ (v : Value) (n : Nat) (f : Slots) (w : World), n ≤ 1048576 → RowAt w v n f → Calls Try.prog fn #[v] w fun e w' => e = .returned (.bool (M f n)) ∧ Below w.heap.size w w'
def AsksI (fn : FuncId) (M : Slots → Nat → Int → Int) : Prop := ∀ (v : Value) (n : Nat) (f : Slots) (i : Int) (w : World), n ≤ 1048576 → RowAt w v n f → Calls Try.prog fn #[v, .int .i64 i] w fun e w' => e = .returned (.int .i64 (M f n i)) ∧ Below w.heap.size w w'
theorem spHeapOk_low {v : Value} {n : Nat} (f : Slots) {w : World} (hn : n ≤ 1048576) (h : RowAt w v n f) :
    Calls Try.prog 66 #[v] w fun e w' => e = .returned (.bool (heapB f n)) ∧ Below w.heap.size w w' :=
  (spHeapOk_any f hn h).mono fun e w' ⟨m, he, hw⟩ => ⟨he, by rw [hw]; exact b_drewN (Below.refl _ _) m⟩
def findM (f : Slots) (n : Nat) (i : Int) : Int := findFrom f n i 0
theorem spFindSlot_low {v : Value} {n : Nat} (f : Slots) (i : Int) {w : World} (hn : n ≤ 1048576) (h : RowAt w v n f) :
    Calls Try.prog 32 #[v, .int .i64 i] w fun e w' => e = .returned (.int .i64 (findM f n i)) ∧ Below w.heap.size w w' :=
  (spFindSlot_any f i hn h).mono fun e w' ⟨he, hw⟩ => ⟨he, by rw [← hw]; exact Below.refl _ _⟩

/-! ### exHeapOk -/
/-! ### exFindSlot -/
/-! ### exPulled: a list and a slot and a word, asked of one list and one number -/
theorem blk_step {w w' : World} {b : Nat} {o : Obj} (h : w.heap[b]? = some o) (hb : Below w.heap.size w w') : w'.heap[b]? = some o := b_block hb h (lt_of_block h)
theorem blk_kept {w w' : World} {b : Nat} {o : Obj} {ob : Option Nat} (h : w.heap[b]? = some o) (hg : w.grownBy w' ob) (hne : ∀ g, ob = some g → g ≠ b) : w'.heap[b]? = some o :=
  (hg.block b (lt_of_block h) (by intro e; exact hne b e.symm rfl)).trans h

theorem pulledN_le {n : Nat} (i : Int) (hn : n ≤ 1048576) : pulledN n i ≤ 1048576 := by unfold pulledN; split <;> omega
/-- what the program's PulledOff is to answer -/
def Pulls (fn : FuncId) : Prop := ∀ (v : Value) (n : Nat) (f : Slots) (i : Int) (w : World), n ≤ 1048576 → RowAt w v n f → Calls Try.prog fn #[v, .int .i64 i] w (NewRowS (pulledN n i) (pulledF f n i) (pulledS f n i) (hasB n i) w)

end Go.Proofs.Ytcfkginbkammoaa

/-
  The program's FindSlot (chapter 2), by the library's IndexFunc and a closure.
-/
namespace Go.Proofs.Ytcfkginbkammoaa
open Go.RowKit Go.Joins
set_option linter.unusedVariables false

set_option maxHeartbeats 400000 in
theorem findClo_is {b : Nat} {id x y : Int} (r : Bool) (hr : (x == id) = r) {w : World} (hc : w.cell? ⟨b, 0, none⟩ = some (.int .i64 id)) :
    Calls Try.prog 89 #[.agg #[.int .i64 x, .int .i64 y], .pointer (some ⟨b, 0, none⟩)] w fun e w' => e = .returned (.bool r) ∧ Below w.heap.size w w' := by
  have hl := World.block_lt_of_cell? w _ hc
  have c0 := (World.cell?_alloc_lt w (.cells #[.int .i64 x, .int .i64 y] 94) ⟨b, 0, none⟩ hl).trans hc
  clear hc
  go_enter Try.func89, Try.ntmps89
  go_wp2
  go_ret
  exact ⟨ret_bool (by first | rfl | exact hr), (Below.refl _ _).alloc (Nat.le_refl _) _⟩

set_option maxRecDepth 100000 in
set_option maxHeartbeats 1000000 in
theorem indexFunc_any {v : Value} {n bx : Nat} {f : Slots} {id : Int} {w : World} (hn : n ≤ 1048576) (h : RowAt w v n f) (hx : w.cell? ⟨bx, 0, none⟩ = some (.int .i64 id)) :
    Calls Try.prog 88 #[v, .func (.func 89) #[] #[.pointer (some ⟨bx, 0, none⟩)]] w fun e w' => e = .returned (.int .i64 (findFrom f n id 0)) ∧ Below w.heap.size w w' := by
  have hbx := World.block_lt_of_cell? w _ hx
  have HX := Lib.hid hx
  clear hx
  rcases h with ⟨rfl, a, cap, rfl⟩ | ⟨b, off, cap, rfl, hl, hc⟩
  · rw [findFrom_out (Nat.lt_irrefl 0)]
    go_enter Try.func88, Try.ntmps88
    go_wp2_with fail
    refine wp_loop_rounds 1 ?_
    rw [rounds_succ]
    go_wp2
    go_ret
    exact ⟨rfl, Below.refl _ _⟩
  · have H := Lib.hid hc
    clear hc
    go_enter Try.func88, Try.ntmps88
    go_wp2_with fail
    go_loopw [8] (fun i wr => ∃ k : Nat, k ≤ n ∧ i = .int .i64 k ∧ Below w.heap.size w wr ∧ Hid (findFrom f n id 0 = findFrom f n id k)) (fun i _ => n - (intOf i).toNat)
    case atStart => exact ⟨0, Nat.zero_le _, rfl, Below.refl _ _, Lib.hid rfl⟩
    case round =>
      obtain ⟨k, hk, rfl, hbw, hf⟩ := hrel
      by_cases hlt : k < n
      · have c0 := (hbw.cell (p := ⟨b, off + k * 2, none⟩) hl).trans (H.out k hlt).1
        have c1 := (hbw.cell (p := ⟨b, off + k * 2 + 1, none⟩) hl).trans (H.out k hlt).2
        have hx := (hbw.cell (p := ⟨bx, 0, none⟩) hbx).trans HX.out
        have b2 : (k : Int) < (n : Int) := by omega
        by_cases he : (f k).1 = id
        · have hr : ((f k).1 == id) = true := by simpa using he
          have hfk := Lib.hid (hf.out.trans (findFrom_here hlt he))
          clear he hf
          go_wp2_with fail
          go_at_call 89; refine (findClo_is true hr hx).mono ?_; rintro e w1 ⟨rfl, hb⟩
          have hb1 := hbw.trans (hb.mono hbw.size)
          clear c0 c1 hx hbw hb
          go_wp2
          go_ret
          exact ⟨ret_i64 hfk.out.symm, hb1⟩
        · have hr : ((f k).1 == id) = false := by simpa using he
          have hfk := Lib.hid (hf.out.trans (findFrom_next hlt he))
          clear he hf
          go_wp2_with fail
          go_at_call 89; refine (findClo_is false hr hx).mono ?_; rintro e w1 ⟨rfl, hb⟩
          have hb1 := hbw.trans (hb.mono hbw.size)
          clear c0 c1 hx hbw hb
          go_wp2
          exact ⟨⟨k + 1, by omega, by go_num, hb1, hfk⟩, by simp [intOf]; omega⟩
      · have hfk := Lib.hid (hf.out.trans (findFrom_out hlt))
        have b2 : ¬ (k : Int) < (n : Int) := by omega
        have hd : decide (k < n) = false := by simp; omega
        clear hf
        go_wp2
        go_ret
        exact ⟨ret_i64 hfk.out.symm, hbw⟩

set_option maxRecDepth 100000 in
set_option maxHeartbeats 1000000 in
theorem iFindSlot_holds : AsksI 77 findM := by
  intro v n f id w hn h
  have k0 := (Below.refl w.heap.size w).alloc (Nat.le_refl _) (.cells #[.int .i64 id] 2)
  have HR := Lib.hid (h.below k0)
  have hx := cell_of_block (heap_alloc_new w (.cells #[.int .i64 id] 2)) 0
  clear h
  go_enter Try.func77, Try.ntmps77
  go_wp2_with fail
  go_at_call 88; refine (indexFunc_any hn HR.out hx).mono ?_; rintro e w1 ⟨rfl, hb⟩
  go_wp2
  go_ret
  exact ⟨rfl, k0.trans (hb.mono k0.size)⟩

end Go.Proofs.Ytcfkginbkammoaa
