/-
  Processors, in the program (chapter 4): its own form of one, and its small methods.
-/
import Derived.Test.YtnmaljieaflnmaaL06
import Derived.Test.YtnmaljieaflnmaaL00
import Derived.Test.YtnmaljieaflnmaaL01
import Derived.Test.YtnmaljieaflnmaaL05
import Derived.Test.YtnmaljieaflnmaaL03
import Derived.Laws.EntriesVeiled
namespace Go.Proofs.Ytnmaljieaflnmaa
open Go.RowKit Go.Joins
set_option linter.unusedVariables false

/-- a processor as the program works with it -/
abbrev pxV (v : Value) (l e d : Int) : Value := .agg #[.int .i64 l, v, .int .i64 e, .int .i64 d]

set_option maxRecDepth 100000 in
set_option maxHeartbeats 400000 in
theorem processorOf_any {v : Value} {n : Nat} (l e d : Int) {w : World} (hv : ∃ a cap, v = .slice a n cap) :
    Calls Try.prog 48 #[prV v l e d] w fun x w' => x = .returned (pxV v l e d) ∧ Below w.heap.size w w' := by
  obtain ⟨a, cap, rfl⟩ := hv
  have k0 := (Below.refl w.heap.size w).alloc (Nat.le_refl _) (.cells #[.slice a n cap, .int .i64 l, .int .i64 e, .int .i64 d] 28)
  go_enter Try.func48, Try.ntmps48
  go_wp2
  exact bodyPost_ret (v := pxV (.slice a n cap) l e d) (by simp [results, Try.results48, go_sem]) rfl ⟨rfl, k0.alloc k0.size _⟩

set_option maxHeartbeats 400000 in
theorem free_any (l : Int) (w : World) :
    Calls Try.prog 120 #[.agg #[.int .i64 l]] w fun x w' => x = .returned (.bool (l == -1)) ∧ Below w.heap.size w w' := by
  go_enter Try.func120, Try.ntmps120
  go_wp2
  go_ret
  exact ⟨rfl, (Below.refl _ _).alloc (Nat.le_refl _) _⟩

/-- the block of a processor that came in -/
abbrev pxB (v : Value) (l e d : Int) : Obj := .cells #[.int .i64 l, v, .int .i64 e, .int .i64 d] 79

set_option maxRecDepth 100000 in
set_option maxHeartbeats 400000 in
theorem lockRight_any (a b c : Int) {v : Value} {n : Nat} (l e d : Int) {w : World} (hv : ∃ a cap, v = .slice a n cap) :
    Calls Try.prog 93 #[pxV v l e d, .agg #[.int .i64 a, .int .i64 b, .int .i64 c]] w fun x w' => x = .returned (.bool (l == -1 || workB a b c l)) ∧ Below w.heap.size w w' := by
  obtain ⟨sa, cap, rfl⟩ := hv
  have k0 := (Below.refl w.heap.size w).alloc (Nat.le_refl _) (pxB (.slice sa n cap) l e d)
  have k1 := k0.alloc k0.size (.cells #[.int .i64 a, .int .i64 b, .int .i64 c] 25)
  cases hl : l == -1
  · rw [Bool.false_or]
    go_enter Try.func93, Try.ntmps93
    go_wp2_with (first
      | (go_at_call 120; refine (free_any _ _).mono ?_; rintro x w1 ⟨rfl, hb⟩; rw [hl]; obtain ⟨hc, hf⟩ := bcell hb)
      | (go_at_call 121; refine (hasWorker_any _ _ _ _ _).mono ?_; rintro x w2 ⟨rfl, hb2⟩))
    go_ret
    exact ⟨rfl, k1.trans ((hb.trans (hb2.mono hb.size)).mono k1.size)⟩
  · rw [Bool.true_or]
    go_enter Try.func93, Try.ntmps93
    go_wp2_with (first
      | (go_at_call 120; refine (free_any _ _).mono ?_; rintro x w1 ⟨rfl, hb⟩; rw [hl]; obtain ⟨hc, hf⟩ := bcell hb)
      | (go_at_call 121; refine (hasWorker_any _ _ _ _ _).mono ?_; rintro x w2 ⟨rfl, hb2⟩))
    go_ret
    exact ⟨rfl, k1.trans (hb.mono k1.size)⟩

set_option maxRecDepth 100000 in
set_option maxHeartbeats 400000 in
theorem earliestRight_any {v : Value} {n : Nat} (l e d : Int) {w : World} (hv : ∃ a cap, v = .slice a n cap) :
    Calls Try.prog 94 #[pxV v l e d] w fun x w' => x = .returned (.bool (e == -1 || inB e 0 1000000000)) ∧ Below w.heap.size w w' := by
  obtain ⟨sa, cap, rfl⟩ := hv
  have k0 := (Below.refl w.heap.size w).alloc (Nat.le_refl _) (pxB (.slice sa n cap) l e d)
  cases hl : e == -1
  · rw [Bool.false_or]
    go_enter Try.func94, Try.ntmps94
    go_wp2_with (go_at_call 122; refine (isTime_any _ _).mono ?_; rintro x w1 ⟨rfl, rfl⟩)
    go_ret
    exact ⟨rfl, k0⟩
  · rw [Bool.true_or]
    go_enter Try.func94, Try.ntmps94
    go_wp2_with (go_at_call 122; refine (isTime_any _ _).mono ?_; rintro x w1 ⟨rfl, rfl⟩)
    go_ret
    exact ⟨rfl, k0⟩

set_option maxRecDepth 100000 in
set_option maxHeartbeats 400000 in
theorem deletedRight_any {v : Value} {n : Nat} (l e d : Int) {w : World} (hn : n ≤ 1048576) (hv : ∃ a cap, v = .slice a n cap) :
    Calls Try.prog 95 #[pxV v l e d] w fun x w' => x = .returned (.bool (inB d 0 n)) ∧ Below w.heap.size w w' := by
  obtain ⟨sa, cap, rfl⟩ := hv
  have k0 := (Below.refl w.heap.size w).alloc (Nat.le_refl _) (pxB (.slice sa n cap) l e d)
  go_enter Try.func95, Try.ntmps95
  go_wp2_with (go_at_call 90; refine (within_any _ _ _ _).mono ?_; rintro x w1 ⟨rfl, rfl⟩)
  go_ret
  exact ⟨rfl, k0⟩

end Go.Proofs.Ytnmaljieaflnmaa

/-
  A memory as the program works with it (chapter 5): behind a pointer; its processors in a list of their own form.
-/
namespace Go.Proofs.Ytnmaljieaflnmaa
open Go.RowKit Go.Joins
set_option linter.unusedVariables false

/-- the block of a memory -/
abbrev memB (a b c k : Int) (tv pv : Value) : Obj := .cells #[.int .i64 a, .int .i64 b, .int .i64 c, .int .i64 k, tv, pv] 125
theorem six {w : World} {b : Nat} {x0 x1 x2 x3 x4 x5 : Value} {t : TypeId} (h : w.heap[b]? = some (.cells #[x0, x1, x2, x3, x4, x5] t (0, 0))) :
    w.cell? ⟨b, 0, none⟩ = some x0 ∧ w.cell? ⟨b, 1, none⟩ = some x1 ∧ w.cell? ⟨b, 2, none⟩ = some x2 ∧ w.cell? ⟨b, 3, none⟩ = some x3 ∧ w.cell? ⟨b, 4, none⟩ = some x4 ∧ w.cell? ⟨b, 5, none⟩ = some x5 :=
  ⟨cell_of_block h 0, cell_of_block h 1, cell_of_block h 2, cell_of_block h 3, cell_of_block h 4, cell_of_block h 5⟩

/-! ### a list of processors that is read -/
def PxAt (w : World) (b o : Nat) (p : Pc) : Prop :=
  ∃ a cap, w.cell? ⟨b, o, none⟩ = some (.int .i64 p.l) ∧ w.cell? ⟨b, o + 1, none⟩ = some (.slice a p.n cap) ∧ w.cell? ⟨b, o + 2, none⟩ = some (.int .i64 p.e) ∧ w.cell? ⟨b, o + 3, none⟩ = some (.int .i64 p.d) ∧ RowAt w (.slice a p.n cap) p.n p.f
theorem PxAt.below {w w' : World} {b o : Nat} {p : Pc} (h : PxAt w b o p) (hl : b < w.heap.size) (hb : Below w.heap.size w w') : PxAt w' b o p := by
  obtain ⟨a, cap, h0, h1, h2, h3, hr⟩ := h
  exact ⟨a, cap, (hb.cell (p := ⟨b, o, none⟩) hl).trans h0, (hb.cell (p := ⟨b, o + 1, none⟩) hl).trans h1, (hb.cell (p := ⟨b, o + 2, none⟩) hl).trans h2, (hb.cell (p := ⟨b, o + 3, none⟩) hl).trans h3, hr.below hb⟩
def RowXAt (w : World) (v : Value) (m : Nat) (P : Pcs) : Prop :=
  (m = 0 ∧ ∃ a cap, v = .slice a 0 cap) ∨ ∃ b off cap, v = .slice (some ⟨b, off, none⟩) m cap ∧ b < w.heap.size ∧ ∀ i, i < m → PxAt w b (off + i * 4) (P i)
theorem RowXAt.form {w : World} {v : Value} {m : Nat} {P : Pcs} (h : RowXAt w v m P) : ∃ a cap, v = .slice a m cap := by
  rcases h with ⟨rfl, a, cap, rfl⟩ | ⟨b, off, cap, rfl, _⟩
  · exact ⟨_, _, rfl⟩
  · exact ⟨_, _, rfl⟩
theorem RowXAt.below {w w' : World} {v : Value} {m : Nat} {P : Pcs} (h : RowXAt w v m P) (hb : Below w.heap.size w w') : RowXAt w' v m P := by
  rcases h with h | ⟨b, off, cap, rfl, hl, hc⟩
  · exact .inl h
  · exact .inr ⟨b, off, cap, rfl, Nat.lt_of_lt_of_le hl hb.size, fun i hi => (hc i hi).below hl hb⟩

/-! ### a list of processors that the call made -/
def PxIn (cur : Array Value) (m : Nat) (P : Pcs) (V : Nat → Value) : Prop :=
  ∀ i, i < m → cur[i * 4]? = some (.int .i64 (P i).l) ∧ cur[i * 4 + 1]? = some (V i) ∧ cur[i * 4 + 2]? = some (.int .i64 (P i).e) ∧ cur[i * 4 + 3]? = some (.int .i64 (P i).d)
def ListXAt (w : World) (B g m cap : Nat) (P : Pcs) (V : Nat → Value) : Prop :=
  B ≤ g ∧ m ≤ cap ∧ cap ≤ maxLen ∧ ∃ cur, w.heap[g]? = some (.cells cur 79 (0, 0)) ∧ cur.size = cap * 4 ∧ PxIn cur m P V
theorem ListXAt.lt {w : World} {B g m cap : Nat} {P : Pcs} {V : Nat → Value} (h : ListXAt w B g m cap P V) : g < w.heap.size := by
  obtain ⟨_, _, _, cur, hh, _⟩ := h
  exact lt_of_block hh
theorem ListXAt.cells {w : World} {B g m cap : Nat} {P : Pcs} {V : Nat → Value} (h : ListXAt w B g m cap P V) {i : Nat} (hi : i < m) :
    w.cell? ⟨g, i * 4, none⟩ = some (.int .i64 (P i).l) ∧ w.cell? ⟨g, i * 4 + 1, none⟩ = some (V i) ∧ w.cell? ⟨g, i * 4 + 2, none⟩ = some (.int .i64 (P i).e) ∧ w.cell? ⟨g, i * 4 + 3, none⟩ = some (.int .i64 (P i).d) := by
  obtain ⟨_, _, _, cur, hh, _, hr⟩ := h
  obtain ⟨h0, h1, h2, h3⟩ := hr i hi
  exact ⟨(cell_of_block hh _).trans h0, (cell_of_block hh _).trans h1, (cell_of_block hh _).trans h2, (cell_of_block hh _).trans h3⟩
theorem ListXAt.free {w : World} {B g m cap : Nat} {P : Pcs} {V : Nat → Value} (h : ListXAt w B g m cap P V) (o : Nat) : w.frozen? ⟨g, o, none⟩ = false := by
  obtain ⟨_, _, _, cur, hh, _⟩ := h
  exact unfrozen_of_block hh o
theorem ListXAt.block {w w' : World} {B g m cap : Nat} {P : Pcs} {V : Nat → Value} (h : ListXAt w B g m cap P V) (e : w'.heap[g]? = w.heap[g]?) : ListXAt w' B g m cap P V := by
  obtain ⟨h1, h2, h3, cur, hh, r⟩ := h
  exact ⟨h1, h2, h3, cur, e.trans hh, r⟩
theorem ListXAt.below {w w' : World} {B g m cap : Nat} {P : Pcs} {V : Nat → Value} (h : ListXAt w B g m cap P V) (hb : Below w.heap.size w w') : ListXAt w' B g m cap P V := h.block (hb.block g h.lt)
theorem ListXAt.congr {w : World} {B g m cap : Nat} {P Q : Pcs} {V U : Nat → Value} (h : ListXAt w B g m cap P V) (e : ∀ i, i < m → P i = Q i) (ev : ∀ i, i < m → V i = U i) : ListXAt w B g m cap Q U := by
  obtain ⟨h1, h2, h3, cur, hh, hs, hr⟩ := h
  exact ⟨h1, h2, h3, cur, hh, hs, fun i hi => by rw [← e i hi, ← ev i hi]; exact hr i hi⟩
theorem ListXAt.mono {w : World} {B B' g m cap : Nat} {P : Pcs} {V : Nat → Value} (h : ListXAt w B g m cap P V) (hB : B' ≤ B) : ListXAt w B' g m cap P V := by
  obtain ⟨h1, r⟩ := h
  exact ⟨Nat.le_trans hB h1, r⟩
/-- as a list that is read -/
theorem ListXAt.row {w : World} {B g m cap : Nat} {P : Pcs} {V : Nat → Value} (h : ListXAt w B g m cap P V) (hr : ∀ i, i < m → RowAt w (V i) (P i).n (P i).f) : RowXAt w (.slice (some ⟨g, 0, none⟩) m cap) m P :=
  .inr ⟨g, 0, cap, rfl, h.lt, fun i hi => by
    obtain ⟨h0, h1, h2, h3⟩ := h.cells hi
    have ho := hr i hi
    obtain ⟨a, c, e⟩ := ho.form
    rw [e] at h1 ho
    exact ⟨a, c, by simpa using h0, by simpa using h1, by simpa using h2, by simpa using h3, ho⟩⟩

/-- a processor is stored -/
abbrev setX (w : World) (g k : Nat) (u : Value) (l e d : Int) : World := (((w.setCell ⟨g, k * 4, none⟩ (.int .i64 l)).setCell ⟨g, k * 4 + 1, none⟩ u).setCell ⟨g, k * 4 + 2, none⟩ (.int .i64 e)).setCell ⟨g, k * 4 + 3, none⟩ (.int .i64 d)
theorem putX4 {cur : Array Value} {m cap k : Nat} {P : Pcs} {V : Nat → Value} (hs : cur.size = cap * 4) (hk : k < cap) (hr : PxIn cur m P V) (u : Value) (p : Pc) :
    PxIn ((((cur.setIfInBounds (k * 4) (.int .i64 p.l)).setIfInBounds (k * 4 + 1) u).setIfInBounds (k * 4 + 2) (.int .i64 p.e)).setIfInBounds (k * 4 + 3) (.int .i64 p.d)) m (putP P k p) (putV V k u) := by
  intro i hi
  by_cases e : i = k
  · subst e
    rw [putP_same, putV_same]
    refine ⟨?_, ?_, ?_, ?_⟩ <;> (simp only [Array.getElem?_setIfInBounds, Array.size_setIfInBounds]; simp; try omega)
  · rw [putP_other P p e, putV_other V u e]
    obtain ⟨h0, h1, h2, h3⟩ := hr i hi
    refine ⟨?_, ?_, ?_, ?_⟩
    · rw [Array.getElem?_setIfInBounds_ne (by omega), Array.getElem?_setIfInBounds_ne (by omega), Array.getElem?_setIfInBounds_ne (by omega), Array.getElem?_setIfInBounds_ne (by omega)]; exact h0
    · rw [Array.getElem?_setIfInBounds_ne (by omega), Array.getElem?_setIfInBounds_ne (by omega), Array.getElem?_setIfInBounds_ne (by omega), Array.getElem?_setIfInBounds_ne (by omega)]; exact h1
    · rw [Array.getElem?_setIfInBounds_ne (by omega), Array.getElem?_setIfInBounds_ne (by omega), Array.getElem?_setIfInBounds_ne (by omega), Array.getElem?_setIfInBounds_ne (by omega)]; exact h2
    · rw [Array.getElem?_setIfInBounds_ne (by omega), Array.getElem?_setIfInBounds_ne (by omega), Array.getElem?_setIfInBounds_ne (by omega), Array.getElem?_setIfInBounds_ne (by omega)]; exact h3
theorem ListXAt.put {w : World} {B g m cap : Nat} {P : Pcs} {V : Nat → Value} (h : ListXAt w B g m cap P V) {k : Nat} (hk : k < m) (u : Value) (p : Pc) : ListXAt (setX w g k u p.l p.e p.d) B g m cap (putP P k p) (putV V k u) := by
  obtain ⟨h1, h2, h3, cur, hh, hs, hr⟩ := h
  refine ⟨h1, h2, h3, _, block_setCell (block_setCell (block_setCell (block_setCell hh (i := k * 4) _) (i := k * 4 + 1) _) (i := k * 4 + 2) _) (i := k * 4 + 3) _, by simp [hs], putX4 hs (by omega) hr u p⟩
theorem heap_setX (w : World) (g k : Nat) (u : Value) (l e d : Int) {x : Nat} (hx : x ≠ g) : (setX w g k u l e d).heap[x]? = w.heap[x]? :=
  (Below.heap_setCell _ ⟨g, k * 4 + 3, none⟩ _ x hx).trans ((Below.heap_setCell _ ⟨g, k * 4 + 2, none⟩ _ x hx).trans ((Below.heap_setCell _ ⟨g, k * 4 + 1, none⟩ _ x hx).trans (Below.heap_setCell _ ⟨g, k * 4, none⟩ _ x hx)))
theorem b_setX {W w : World} {n g : Nat} (h : Below n W w) (hg : n ≤ g) (k : Nat) (u : Value) (l e d : Int) : Below n W (setX w g k u l e d) :=
  (((h.setCell (p := ⟨g, k * 4, none⟩) hg _).setCell (p := ⟨g, k * 4 + 1, none⟩) hg _).setCell (p := ⟨g, k * 4 + 2, none⟩) hg _).setCell (p := ⟨g, k * 4 + 3, none⟩) hg _

theorem px_info : (Try.prog.info? 79).map (fun i => (i.zero, i.size, i.bytes)) = some (some (.agg #[.int .i64 0, .slice none 0 0, .int .i64 0, .int .i64 0]), 4, 48) := by kernel_rfl
theorem madeX_zero (n i : Nat) (hi : i < n) : (madeCells #[.int .i64 0, .slice none 0 0, .int .i64 0, .int .i64 0] (n * 4))[i * 4]? = some (.int .i64 0) ∧ (madeCells #[.int .i64 0, .slice none 0 0, .int .i64 0, .int .i64 0] (n * 4))[i * 4 + 1]? = some (.slice none 0 0) ∧ (madeCells #[.int .i64 0, .slice none 0 0, .int .i64 0, .int .i64 0] (n * 4))[i * 4 + 2]? = some (.int .i64 0) ∧ (madeCells #[.int .i64 0, .slice none 0 0, .int .i64 0, .int .i64 0] (n * 4))[i * 4 + 3]? = some (.int .i64 0) := by
  have m1 : (i * 4 + 1) % 4 = 1 := by omega
  have m2 : (i * 4 + 2) % 4 = 2 := by omega
  have m3 : (i * 4 + 3) % 4 = 3 := by omega
  refine ⟨?_, ?_, ?_, ?_⟩ <;> (rw [Array.getElem?_eq_getElem (by rw [size_madeCells]; omega)]; simp [madeCells, m1, m2, m3])
abbrev madeX (n : Nat) : Obj := .cells (madeCells #[.int .i64 0, .slice none 0 0, .int .i64 0, .int .i64 0] (n * 4)) 79
theorem listx_made (w : World) (n : Nat) (hn : n ≤ maxLen) : ListXAt (w.alloc (madeX n)) w.heap.size w.heap.size n n (fun _ => pc0) (fun _ => .slice none 0 0) :=
  ⟨Nat.le_refl _, Nat.le_refl _, hn, _, heap_alloc_new w _, size_madeCells _ _, fun i hi => madeX_zero n i hi⟩
theorem run_make_px (n : Nat) (hn : n ≤ 1048576) : ∀ w : World, (Instr.makeSlice 123 (.int .i64 (n : Int)) (.int .i64 (n : Int))).run Try.prog w = .ok (.slice (some ⟨w.heap.size, 0, none⟩) n n) (w.alloc (madeX n)) := by
  intro w
  obtain ⟨i0, hi, hz, hs, hby⟩ := info_parts px_info
  have hr := run_make (P := Try.prog) w 123 79 i0 _ Try.underlying123 hi hz .i64 .i64 (n : Int) (n : Int) (by omega) (by omega) (by rw [hby]; omega) (by omega)
  rw [hs] at hr
  simp only [Int.toNat_natCast] at hr
  exact hr

/-! ### a memory that is looked at -/
def SeenAt (w : World) (mb : Nat) (a b c : Int) (M : Me) : Prop := ∃ tv pv, w.heap[mb]? = some (memB a b c M.c tv pv) ∧ RowTAt w tv M.tn M.t ∧ RowXAt w pv M.pn M.p
theorem SeenAt.lt {w : World} {mb : Nat} {a b c : Int} {M : Me} (h : SeenAt w mb a b c M) : mb < w.heap.size := by
  obtain ⟨_, _, h, _⟩ := h
  exact lt_of_block h
theorem SeenAt.below {w w' : World} {mb : Nat} {a b c : Int} {M : Me} (h : SeenAt w mb a b c M) (hb : Below w.heap.size w w') : SeenAt w' mb a b c M := by
  obtain ⟨tv, pv, h1, h2, h3⟩ := h
  exact ⟨tv, pv, b_block hb h1 (lt_of_block h1), h2.below hb, h3.below hb⟩
/-- the pointer to a memory -/
abbrev ptrV (mb : Nat) : Value := .pointer (some ⟨mb, 0, none⟩)

end Go.Proofs.Ytnmaljieaflnmaa

/-
  A memory as the program works with it (chapter 5): has it a timer; do the slots of a processor agree with the timers?
-/
namespace Go.Proofs.Ytnmaljieaflnmaa
open Go.RowKit Go.Joins
set_option linter.unusedVariables false

set_option maxHeartbeats 400000 in
theorem hasTimer_any {mb : Nat} {a b c : Int} {M : Me} {w : World} (hn : M.tn ≤ 1048576) (h : SeenAt w mb a b c M) (t : Int) :
    Calls Try.prog 138 #[ptrV mb, .int .i64 t] w fun e w' => e = .returned (.bool (hasT M t)) ∧ Below w.heap.size w w' := by
  obtain ⟨tv, pv, hb, ht, _⟩ := h
  obtain ⟨ta, tc, rfl⟩ := ht.form
  obtain ⟨m0, m1, m2, m3, m4, m5⟩ := six hb
  clear hb ht
  unfold hasT
  go_enter Try.func138, Try.ntmps138
  go_wp2_with fail
  go_at_call 90; refine (within_any _ _ _ _).mono ?_; rintro x w1 ⟨rfl, rfl⟩
  go_wp2
  go_ret
  exact ⟨rfl, Below.refl _ _⟩

/-- is a timer overlooked? -/
def ovB (e : Int) (t : Tm) : Bool := t.st == 3 && (e == -1 || decide (t.nx < e))
set_option maxRecDepth 100000 in
set_option maxHeartbeats 1000000 in
theorem overlooks_any {v : Value} {n : Nat} (l e d : Int) (t : Tm) {w : World} (hv : ∃ a cap, v = .slice a n cap) :
    Calls Try.prog 139 #[pxV v l e d, tmV t] w fun x w' => x = .returned (.bool (ovB e t)) ∧ Below w.heap.size w w' := by
  obtain ⟨sa, cap, rfl⟩ := hv
  obtain ⟨st, wh, nx, pe, pl, ge, ki, ma⟩ := t
  have k0 := (Below.refl w.heap.size w).alloc (Nat.le_refl _) (pxB (.slice sa n cap) l e d)
  have k1 := k0.alloc k0.size (.cells (tmCells ⟨st, wh, nx, pe, pl, ge, ki, ma⟩) 96)
  cases h3 : st == 3
  · rw [show ovB e ⟨st, wh, nx, pe, pl, ge, ki, ma⟩ = false by simp only [ovB, h3]; rfl]
    go_enter Try.func139, Try.ntmps139
    go_wp2
    go_ret
    exact ⟨rfl, k1⟩
  cases he : e == -1
  · rw [show ovB e ⟨st, wh, nx, pe, pl, ge, ki, ma⟩ = decide (nx < e) by simp only [ovB, h3, he]; rfl]
    go_enter Try.func139, Try.ntmps139
    go_wp2
    go_ret
    exact ⟨rfl, k1⟩
  · rw [show ovB e ⟨st, wh, nx, pe, pl, ge, ki, ma⟩ = true by simp only [ovB, h3, he]; rfl]
    go_enter Try.func139, Try.ntmps139
    go_wp2
    go_ret
    exact ⟨rfl, k1⟩

set_option maxRecDepth 100000 in
set_option maxHeartbeats 8000000 in
theorem slotsAgree_any {mb : Nat} {a b c : Int} {M : Me} {w : World} (htn : M.tn ≤ 1048576) (h : SeenAt w mb a b c M) (k : Int) {v : Value} {n : Nat} {f : Slots} (hn : n ≤ 1048576) (hr : RowAt w v n f) :
    Calls Try.prog 124 #[ptrV mb, .int .i64 k, v] w fun e w' => e = .returned (.bool (allB (fun i => slotOkB M k (f i)) n)) ∧ Below w.heap.size w w' := by
  obtain ⟨a1, c1, rfl⟩ := hr.form
  have HR := Lib.hid hr
  have HS := Lib.hid h
  clear h hr
  go_enter Try.func124, Try.ntmps124
  go_wp2_with fail
  go_loopw [11] (fun i wr => ∃ q : Nat, q ≤ n ∧ i = .int .i64 q ∧ Hid (allB (fun i => slotOkB M k (f i)) q = true) ∧ Below w.heap.size w wr) (fun i _ => n - (intOf i).toNat)
  case atStart => exact ⟨0, Nat.zero_le _, rfl, Lib.hid rfl, Below.refl _ _⟩
  case round =>
    obtain ⟨i, hi, rfl, hok, kw⟩ := hrel
    by_cases hlt : i < n
    · rcases HR.out with ⟨h0, _⟩ | ⟨sb, so, scap, ev, hsb, hsc⟩
      · omega
      injection ev with ev1 ev2 ev3
      subst ev1 ev3
      obtain ⟨s0, s1⟩ := hsc i hlt
      replace s0 := (kw.cell (p := ⟨sb, so + i * 2, none⟩) hsb).trans s0
      replace s1 := (kw.cell (p := ⟨sb, so + i * 2 + 1, none⟩) hsb).trans s1
      have i1 : (i : Int) < (n : Int) := by omega
      have i0 : (0 : Int) ≤ (i : Int) := by omega
      obtain ⟨id, hid⟩ : ∃ id : Int, id = (f i).1 := ⟨_, rfl⟩
      obtain ⟨ky, hky⟩ : ∃ ky : Int, ky = (f i).2 := ⟨_, rfl⟩
      rw [← hid] at s0
      rw [← hky] at s1
      have ks := kw.alloc kw.size (.cells #[.int .i64 id, .int .i64 ky] 35)
      have hSv := heap_alloc_new wr (.cells #[.int .i64 id, .int .i64 ky] 35)
      have lS := lt_of_block hSv
      obtain ⟨tv, pv, hM, hT, _⟩ := HS.out.below ks
      obtain ⟨ta, tc, htv⟩ := hT.form
      subst htv
      have lM := lt_of_block hM
      obtain ⟨m0, m1, m2, m3, m4, m5⟩ := six hM
      have z0 := cell_of_block hSv 0
      have z1 := cell_of_block hSv 1
      have HOK := Lib.hid hok.out
      have HID := Lib.hid hid
      have HKY := Lib.hid hky
      clear hok hid hky hsc hM hSv
      cases hh : hasT M id
      · have HBAD := Lib.hid (show allB (fun i => slotOkB M k (f i)) n = false from allB_bad (i := i) (by show slotOkB M k (f i) = false; unfold slotOkB; rw [← HID.out, hh]; rfl) _ hlt)
        have HH := Lib.hid hh
        clear hh
        obtain ⟨C, hC⟩ : ∃ C : World → Prop, ∀ w', C w' ↔ (w'.cell? ⟨mb, 4, none⟩ = some (.slice ta M.tn tc) ∧ w'.cell? ⟨wr.heap.size, 0, none⟩ = some (.int .i64 id) ∧ w'.cell? ⟨wr.heap.size, 1, none⟩ = some (.int .i64 ky) ∧ Below ((wr.alloc (.cells #[.int .i64 id, .int .i64 ky] 35))).heap.size ((wr.alloc (.cells #[.int .i64 id, .int .i64 ky] 35))) w') := ⟨_, fun _ => Iff.rfl⟩
        have HCin := Lib.hid (show ∀ w', Below ((wr.alloc (.cells #[.int .i64 id, .int .i64 ky] 35))).heap.size ((wr.alloc (.cells #[.int .i64 id, .int .i64 ky] 35))) w' → C w' from fun w' kd => (hC w').2 ⟨(kd.cell (p := ⟨mb, 4, none⟩) lM).trans m4, (kd.cell (p := ⟨wr.heap.size, 0, none⟩) lS).trans z0, (kd.cell (p := ⟨wr.heap.size, 1, none⟩) lS).trans z1, kd⟩)
        have HC := Lib.hid hC
        have HFn0 : ∀ W : World, Below ((wr.alloc (.cells #[.int .i64 id, .int .i64 ky] 35))).heap.size ((wr.alloc (.cells #[.int .i64 id, .int .i64 ky] 35))) W → Calls Try.prog 138 #[ptrV mb, .int .i64 id] W (fun e w'' => e = .returned (.bool false) ∧ Below W.heap.size W w'') := fun W hW => by have := hasTimer_any htn (HS.out.below (ks.trans (hW.mono ks.size))) (id); rw [HH.out] at this; exact this
        have HCall0 := Lib.hid (show ∀ w', C w' → Calls Try.prog 138 #[ptrV mb, .int .i64 id] w' (fun e w'' => e = .returned (.bool false) ∧ C w'') from fun w' hw' => (HFn0 w' ((HC.out w').1 hw').2.2.2).mono (fun e w'' hx => ⟨hx.1, HCin.out _ ((((HC.out w').1 hw').2.2.2).trans (hx.2.mono (((HC.out w').1 hw').2.2.2).size))⟩))
        clear hC HFn0
        go_wp2_with fail
        refine region_quietC (C := C) (by kernel_rfl) (by kernel_rfl) (HCin.out _ (Below.refl _ _).drew) ?_
        repeat (first
          | go_big_quiet_skip
          | (go_big_quiet_want; go_big_quiet_op; go_big_quiet_on)
          | (refine quiet_take (v := ?_) (by rfl) ?_ ?_
             rotate_left
             · intro w' hw'
               obtain ⟨q0, q1, q2, hbel⟩ := (HC.out w').1 hw'
               go_simp
               first
                 | done
                 | exact rfl
                 | exact HCall0.out w' hw'
             simp only [Act.put, List.setIfInBounds_toArray, List.set_cons_zero, List.set_cons_succ]))
        refine wpQuiet_nil ?_
        intro wq hwq
        obtain ⟨q0, q1, q2, kd⟩ := (HC.out wq).1 hwq
        clear hwq HCall0 HC HCin
        go_wp2
        go_ret
        exact ⟨ret_bool' HBAD.out.symm, ks.trans (kd.mono ks.size)⟩
      obtain ⟨g0, g1⟩ := hasT_iff.1 hh
      rcases hT with ⟨h0, _⟩ | ⟨tb, tof, tcap, ev, htb, htc⟩
      · omega
      injection ev with ev1 ev2 ev3
      subst ev1 ev3
      obtain ⟨j, rfl⟩ : ∃ j : Nat, id = (j : Int) := ⟨id.toNat, by omega⟩
      have hj : j < M.tn := by omega
      have ht := htc j hj
      have t4 : (wr.alloc (.cells #[.int .i64 (j : Int), .int .i64 ky] 35)).cell? ⟨tb, tof + j * 8 + 4, none⟩ = some (.int .i64 (M.t j).pl) := ht 4 (by decide)
      have t1 : (wr.alloc (.cells #[.int .i64 (j : Int), .int .i64 ky] 35)).cell? ⟨tb, tof + j * 8 + 1, none⟩ = some (.int .i64 (M.t j).wh) := ht 1 (by decide)
      have HH := Lib.hid hh
      have hjn : ((f i).1).toNat = j := by rw [← HID.out]; simp
      have HS1 := Lib.hid (show slotOkB M k (f i) = ((M.t j).pl == k && (M.t j).wh == ky) by unfold slotOkB; rw [← HID.out, HH.out, ← HKY.out, Int.toNat_natCast]; rfl)
      obtain ⟨pl, hpl⟩ : ∃ pl : Int, pl = (M.t j).pl := ⟨_, rfl⟩
      obtain ⟨wh, hwh⟩ : ∃ wh : Int, wh = (M.t j).wh := ⟨_, rfl⟩
      rw [← hpl] at t4 HS1
      rw [← hwh] at t1 HS1
      clear ht htc hh hjn hpl hwh
      have ij0 : (0 : Int) ≤ (j : Int) := by omega
      have ij1 : (j : Int) < (M.tn : Int) := by omega
      cases e1 : pl == k
      · have n1 : (pl != k) = true := by rw [bne, e1]; rfl
        have HBAD := Lib.hid (show allB (fun i => slotOkB M k (f i)) n = false from allB_bad (i := i) (by show slotOkB M k (f i) = false; rw [HS1.out, e1]; rfl) _ hlt)
        obtain ⟨C, hC⟩ : ∃ C : World → Prop, ∀ w', C w' ↔ (w'.cell? ⟨mb, 4, none⟩ = some (.slice (some ⟨tb, tof, none⟩) M.tn tc) ∧ w'.cell? ⟨wr.heap.size, 0, none⟩ = some (.int .i64 (j : Int)) ∧ w'.cell? ⟨wr.heap.size, 1, none⟩ = some (.int .i64 ky) ∧ w'.cell? ⟨tb, tof + j * 8 + 4, none⟩ = some (.int .i64 pl) ∧ w'.cell? ⟨tb, tof + j * 8 + 1, none⟩ = some (.int .i64 wh) ∧ Below ((wr.alloc (.cells #[.int .i64 (j : Int), .int .i64 ky] 35))).heap.size ((wr.alloc (.cells #[.int .i64 (j : Int), .int .i64 ky] 35))) w') := ⟨_, fun _ => Iff.rfl⟩
        have HCin := Lib.hid (show ∀ w', Below ((wr.alloc (.cells #[.int .i64 (j : Int), .int .i64 ky] 35))).heap.size ((wr.alloc (.cells #[.int .i64 (j : Int), .int .i64 ky] 35))) w' → C w' from fun w' kd => (hC w').2 ⟨(kd.cell (p := ⟨mb, 4, none⟩) lM).trans m4, (kd.cell (p := ⟨wr.heap.size, 0, none⟩) lS).trans z0, (kd.cell (p := ⟨wr.heap.size, 1, none⟩) lS).trans z1, (kd.cell (p := ⟨tb, tof + j * 8 + 4, none⟩) htb).trans t4, (kd.cell (p := ⟨tb, tof + j * 8 + 1, none⟩) htb).trans t1, kd⟩)
        have HC := Lib.hid hC
        have HFn0 : ∀ W : World, Below ((wr.alloc (.cells #[.int .i64 (j : Int), .int .i64 ky] 35))).heap.size ((wr.alloc (.cells #[.int .i64 (j : Int), .int .i64 ky] 35))) W → Calls Try.prog 138 #[ptrV mb, .int .i64 (j : Int)] W (fun e w'' => e = .returned (.bool true) ∧ Below W.heap.size W w'') := fun W hW => by have := hasTimer_any htn (HS.out.below (ks.trans (hW.mono ks.size))) ((j : Int)); rw [HH.out] at this; exact this
        have HCall0 := Lib.hid (show ∀ w', C w' → Calls Try.prog 138 #[ptrV mb, .int .i64 (j : Int)] w' (fun e w'' => e = .returned (.bool true) ∧ C w'') from fun w' hw' => (HFn0 w' ((HC.out w').1 hw').2.2.2.2.2).mono (fun e w'' hx => ⟨hx.1, HCin.out _ ((((HC.out w').1 hw').2.2.2.2.2).trans (hx.2.mono (((HC.out w').1 hw').2.2.2.2.2).size))⟩))
        clear hC HFn0
        go_wp2_with fail
        refine region_quietC (C := C) (by kernel_rfl) (by kernel_rfl) (HCin.out _ (Below.refl _ _).drew) ?_
        repeat (first
          | go_big_quiet_skip
          | (go_big_quiet_want; go_big_quiet_op; go_big_quiet_on)
          | (refine quiet_take (v := ?_) (by rfl) ?_ ?_
             rotate_left
             · intro w' hw'
               obtain ⟨q0, q1, q2, q3, q4, hbel⟩ := (HC.out w').1 hw'
               go_simp
               first
                 | done
                 | exact rfl
                 | exact HCall0.out w' hw'
             simp only [Act.put, List.setIfInBounds_toArray, List.set_cons_zero, List.set_cons_succ]))
        refine wpQuiet_nil ?_
        intro wq hwq
        obtain ⟨q0, q1, q2, q3, q4, kd⟩ := (HC.out wq).1 hwq
        clear hwq HCall0 HC HCin
        go_wp2
        go_ret
        exact ⟨ret_bool' HBAD.out.symm, ks.trans (kd.mono ks.size)⟩
      have n1 : (pl != k) = false := by rw [bne, e1]; rfl
      cases e2 : wh == ky
      · have n2 : (wh != ky) = true := by rw [bne, e2]; rfl
        have HBAD := Lib.hid (show allB (fun i => slotOkB M k (f i)) n = false from allB_bad (i := i) (by show slotOkB M k (f i) = false; rw [HS1.out, e1, e2]; rfl) _ hlt)
        obtain ⟨C, hC⟩ : ∃ C : World → Prop, ∀ w', C w' ↔ (w'.cell? ⟨mb, 4, none⟩ = some (.slice (some ⟨tb, tof, none⟩) M.tn tc) ∧ w'.cell? ⟨wr.heap.size, 0, none⟩ = some (.int .i64 (j : Int)) ∧ w'.cell? ⟨wr.heap.size, 1, none⟩ = some (.int .i64 ky) ∧ w'.cell? ⟨tb, tof + j * 8 + 4, none⟩ = some (.int .i64 pl) ∧ w'.cell? ⟨tb, tof + j * 8 + 1, none⟩ = some (.int .i64 wh) ∧ Below ((wr.alloc (.cells #[.int .i64 (j : Int), .int .i64 ky] 35))).heap.size ((wr.alloc (.cells #[.int .i64 (j : Int), .int .i64 ky] 35))) w') := ⟨_, fun _ => Iff.rfl⟩
        have HCin := Lib.hid (show ∀ w', Below ((wr.alloc (.cells #[.int .i64 (j : Int), .int .i64 ky] 35))).heap.size ((wr.alloc (.cells #[.int .i64 (j : Int), .int .i64 ky] 35))) w' → C w' from fun w' kd => (hC w').2 ⟨(kd.cell (p := ⟨mb, 4, none⟩) lM).trans m4, (kd.cell (p := ⟨wr.heap.size, 0, none⟩) lS).trans z0, (kd.cell (p := ⟨wr.heap.size, 1, none⟩) lS).trans z1, (kd.cell (p := ⟨tb, tof + j * 8 + 4, none⟩) htb).trans t4, (kd.cell (p := ⟨tb, tof + j * 8 + 1, none⟩) htb).trans t1, kd⟩)
        have HC := Lib.hid hC
        have HFn0 : ∀ W : World, Below ((wr.alloc (.cells #[.int .i64 (j : Int), .int .i64 ky] 35))).heap.size ((wr.alloc (.cells #[.int .i64 (j : Int), .int .i64 ky] 35))) W → Calls Try.prog 138 #[ptrV mb, .int .i64 (j : Int)] W (fun e w'' => e = .returned (.bool true) ∧ Below W.heap.size W w'') := fun W hW => by have := hasTimer_any htn (HS.out.below (ks.trans (hW.mono ks.size))) ((j : Int)); rw [HH.out] at this; exact this
        have HCall0 := Lib.hid (show ∀ w', C w' → Calls Try.prog 138 #[ptrV mb, .int .i64 (j : Int)] w' (fun e w'' => e = .returned (.bool true) ∧ C w'') from fun w' hw' => (HFn0 w' ((HC.out w').1 hw').2.2.2.2.2).mono (fun e w'' hx => ⟨hx.1, HCin.out _ ((((HC.out w').1 hw').2.2.2.2.2).trans (hx.2.mono (((HC.out w').1 hw').2.2.2.2.2).size))⟩))
        clear hC HFn0
        go_wp2_with fail
        refine region_quietC (C := C) (by kernel_rfl) (by kernel_rfl) (HCin.out _ (Below.refl _ _).drew) ?_
        repeat (first
          | go_big_quiet_skip
          | (go_big_quiet_want; go_big_quiet_op; go_big_quiet_on)
          | (refine quiet_take (v := ?_) (by rfl) ?_ ?_
             rotate_left
             · intro w' hw'
               obtain ⟨q0, q1, q2, q3, q4, hbel⟩ := (HC.out w').1 hw'
               go_simp
               first
                 | done
                 | exact rfl
                 | exact HCall0.out w' hw'
             simp only [Act.put, List.setIfInBounds_toArray, List.set_cons_zero, List.set_cons_succ]))
        refine wpQuiet_nil ?_
        intro wq hwq
        obtain ⟨q0, q1, q2, q3, q4, kd⟩ := (HC.out wq).1 hwq
        clear hwq HCall0 HC HCin
        go_wp2
        go_ret
        exact ⟨ret_bool' HBAD.out.symm, ks.trans (kd.mono ks.size)⟩
      · have n2 : (wh != ky) = false := by rw [bne, e2]; rfl
        have HOKN := Lib.hid (show allB (fun i => slotOkB M k (f i)) (i + 1) = true by rw [allB, HOK.out, Bool.true_and]; show slotOkB M k (f i) = true; rw [HS1.out, e1, e2]; rfl)
        obtain ⟨C, hC⟩ : ∃ C : World → Prop, ∀ w', C w' ↔ (w'.cell? ⟨mb, 4, none⟩ = some (.slice (some ⟨tb, tof, none⟩) M.tn tc) ∧ w'.cell? ⟨wr.heap.size, 0, none⟩ = some (.int .i64 (j : Int)) ∧ w'.cell? ⟨wr.heap.size, 1, none⟩ = some (.int .i64 ky) ∧ w'.cell? ⟨tb, tof + j * 8 + 4, none⟩ = some (.int .i64 pl) ∧ w'.cell? ⟨tb, tof + j * 8 + 1, none⟩ = some (.int .i64 wh) ∧ Below ((wr.alloc (.cells #[.int .i64 (j : Int), .int .i64 ky] 35))).heap.size ((wr.alloc (.cells #[.int .i64 (j : Int), .int .i64 ky] 35))) w') := ⟨_, fun _ => Iff.rfl⟩
        have HCin := Lib.hid (show ∀ w', Below ((wr.alloc (.cells #[.int .i64 (j : Int), .int .i64 ky] 35))).heap.size ((wr.alloc (.cells #[.int .i64 (j : Int), .int .i64 ky] 35))) w' → C w' from fun w' kd => (hC w').2 ⟨(kd.cell (p := ⟨mb, 4, none⟩) lM).trans m4, (kd.cell (p := ⟨wr.heap.size, 0, none⟩) lS).trans z0, (kd.cell (p := ⟨wr.heap.size, 1, none⟩) lS).trans z1, (kd.cell (p := ⟨tb, tof + j * 8 + 4, none⟩) htb).trans t4, (kd.cell (p := ⟨tb, tof + j * 8 + 1, none⟩) htb).trans t1, kd⟩)
        have HC := Lib.hid hC
        have HFn0 : ∀ W : World, Below ((wr.alloc (.cells #[.int .i64 (j : Int), .int .i64 ky] 35))).heap.size ((wr.alloc (.cells #[.int .i64 (j : Int), .int .i64 ky] 35))) W → Calls Try.prog 138 #[ptrV mb, .int .i64 (j : Int)] W (fun e w'' => e = .returned (.bool true) ∧ Below W.heap.size W w'') := fun W hW => by have := hasTimer_any htn (HS.out.below (ks.trans (hW.mono ks.size))) ((j : Int)); rw [HH.out] at this; exact this
        have HCall0 := Lib.hid (show ∀ w', C w' → Calls Try.prog 138 #[ptrV mb, .int .i64 (j : Int)] w' (fun e w'' => e = .returned (.bool true) ∧ C w'') from fun w' hw' => (HFn0 w' ((HC.out w').1 hw').2.2.2.2.2).mono (fun e w'' hx => ⟨hx.1, HCin.out _ ((((HC.out w').1 hw').2.2.2.2.2).trans (hx.2.mono (((HC.out w').1 hw').2.2.2.2.2).size))⟩))
        clear hC HFn0
        go_wp2_with fail
        refine region_quietC (C := C) (by kernel_rfl) (by kernel_rfl) (HCin.out _ (Below.refl _ _).drew) ?_
        repeat (first
          | go_big_quiet_skip
          | (go_big_quiet_want; go_big_quiet_op; go_big_quiet_on)
          | (refine quiet_take (v := ?_) (by rfl) ?_ ?_
             rotate_left
             · intro w' hw'
               obtain ⟨q0, q1, q2, q3, q4, hbel⟩ := (HC.out w').1 hw'
               go_simp
               first
                 | done
                 | exact rfl
                 | exact HCall0.out w' hw'
             simp only [Act.put, List.setIfInBounds_toArray, List.set_cons_zero, List.set_cons_succ]))
        refine wpQuiet_nil ?_
        intro wq hwq
        obtain ⟨q0, q1, q2, q3, q4, kd⟩ := (HC.out wq).1 hwq
        clear hwq HCall0 HC HCin
        have kn := ks.trans (kd.mono ks.size)
        go_wp2
        exact ⟨⟨i + 1, by omega, by go_num, HOKN, kn⟩, by simp only [intOf]; omega⟩
    · have hin : i = n := by omega
      have HIN := Lib.hid hin
      have hlt2 : ¬ (i : Int) < (n : Int) := by omega
      clear hin
      go_wp2
      go_ret
      exact ⟨ret_bool' (by rw [← HIN.out, hok.out]), kw⟩

end Go.Proofs.Ytnmaljieaflnmaa

/-
  The program's generic list that is told what is less (chapter 2), at slots: its small methods.
-/
namespace Go.Proofs.Ytnmaljieaflnmaa
open Go.RowKit Go.Joins
set_option linter.unusedVariables false

/-- what is less, as a value -/
abbrev dueV : Value := .func (.func 117) #[] #[]
/-- a heap of the program's, as a value -/
abbrev heapV (v : Value) : Value := .agg #[v, dueV]

set_option maxHeartbeats 400000 in
theorem hSize_any {v : Value} {n : Nat} {w : World} (hn : n ≤ 1048577) (hv : ∃ a cap, v = .slice a n cap) :
    Calls Try.prog 130 #[heapV v] w fun e w' => e = .returned (.int .i64 n) ∧ Below w.heap.size w w' := by
  obtain ⟨a, cap, rfl⟩ := hv
  go_enter Try.func130, Try.ntmps130
  go_wp2
  go_ret
  exact ⟨rfl, (Below.refl _ _).alloc (Nat.le_refl _) _⟩

set_option maxHeartbeats 400000 in
theorem dueBefore_any (a b c d : Int) (w : World) :
    Calls Try.prog 117 #[.agg #[.int .i64 a, .int .i64 b], .agg #[.int .i64 c, .int .i64 d]] w fun e w' => e = .returned (.bool (decide (b < d))) ∧ Below w.heap.size w w' := by
  go_enter Try.func117, Try.ntmps117
  go_wp2
  go_ret
  exact ⟨rfl, ((Below.refl _ _).alloc (Nat.le_refl _) _).alloc (by simp) _⟩

set_option maxHeartbeats 400000 in
theorem parentOf_any (i : Int) (w : World) (h0 : -9223372036854775808 < i) (h1 : i < 9223372036854775808) :
    Calls Try.prog 132 #[.int .i64 i] w fun e w' => e = .returned (.int .i64 ((i - 1).tdiv 4)) ∧ w = w' := by
  go_enter Try.func132, Try.ntmps132
  go_wp2
  go_ret
  exact ⟨rfl, rfl⟩

set_option maxRecDepth 100000 in
set_option maxHeartbeats 1000000 in
theorem hLess_is {v : Value} {n : Nat} {f : Slots} {i j : Nat} (x : Bool) (hx : decide ((f i).2 < (f j).2) = x) {w : World} (hn : n ≤ 1048577) (hi : i < n) (hj : j < n) (h : RowAt w v n f) :
    Calls Try.prog 131 #[heapV v, .int .i64 i, .int .i64 j] w fun e w' => e = .returned (.bool x) ∧ Below w.heap.size w w' := by
  rcases h with ⟨rfl, _⟩ | ⟨b, off, cap, rfl, hl, hc⟩
  · omega
  have hb0 := (Below.refl w.heap.size w).alloc (Nat.le_refl _) (.cells #[.slice (some ⟨b, off, none⟩) n cap, dueV] 136)
  have HB := heap_alloc_new w (.cells #[.slice (some ⟨b, off, none⟩) n cap, dueV] 136)
  have x0 := cell_of_block HB 0
  have x1 := cell_of_block HB 1
  have i0 := (hb0.cell (p := ⟨b, off + i * 2, none⟩) hl).trans (hc i hi).1
  have i1 := (hb0.cell (p := ⟨b, off + i * 2 + 1, none⟩) hl).trans (hc i hi).2
  have j0 := (hb0.cell (p := ⟨b, off + j * 2, none⟩) hl).trans (hc j hj).1
  have j1 := (hb0.cell (p := ⟨b, off + j * 2 + 1, none⟩) hl).trans (hc j hj).2
  have hs0 : w.heap.size < (w.alloc (.cells #[.slice (some ⟨b, off, none⟩) n cap, dueV] 136)).heap.size := by simp
  have hs1 : b < (w.alloc (.cells #[.slice (some ⟨b, off, none⟩) n cap, dueV] 136)).heap.size := Nat.lt_trans hl hs0
  have hii : (i : Int) < (n : Int) := by omega
  have hjj : (j : Int) < (n : Int) := by omega
  clear HB hc
  go_enter Try.func131, Try.ntmps131
  go_wp2_with fail
  go_region_held3 (fun w' => w'.cell? ⟨w.heap.size, 0, none⟩ = some (.slice (some ⟨b, off, none⟩) n cap) ∧ w'.cell? ⟨w.heap.size, 1, none⟩ = some dueV
      ∧ w'.cell? ⟨b, off + i * 2, none⟩ = some (.int .i64 (f i).1) ∧ w'.cell? ⟨b, off + i * 2 + 1, none⟩ = some (.int .i64 (f i).2)
      ∧ w'.cell? ⟨b, off + j * 2, none⟩ = some (.int .i64 (f j).1) ∧ w'.cell? ⟨b, off + j * 2 + 1, none⟩ = some (.int .i64 (f j).2))
    (first | exact ⟨x0, x1, i0, i1, j0, j1⟩ | exact ⟨y0, y1, y2, y3, y4, y5⟩ | go_keep)
    (first
      | (go_at_call 117; refine (dueBefore_any _ _ _ _ _).mono ?_; rintro e w1 ⟨rfl, hb⟩
         have y0 := (hb.cell (p := ⟨w.heap.size, 0, none⟩) hs0).trans x0; have y1 := (hb.cell (p := ⟨w.heap.size, 1, none⟩) hs0).trans x1
         have y2 := (hb.cell (p := ⟨b, off + i * 2, none⟩) hs1).trans i0; have y3 := (hb.cell (p := ⟨b, off + i * 2 + 1, none⟩) hs1).trans i1
         have y4 := (hb.cell (p := ⟨b, off + j * 2, none⟩) hs1).trans j0; have y5 := (hb.cell (p := ⟨b, off + j * 2 + 1, none⟩) hs1).trans j1))
  all_goals
    go_wp2
    go_ret
    exact ⟨rfl, hb0.drew.trans (hb.mono hb0.drew.size)⟩

end Go.Proofs.Ytnmaljieaflnmaa

/-
  The model's two sifts (spec, chapter 2): what each makes of a list.
-/
namespace Go.Proofs.Ytnmaljieaflnmaa
open Go.RowKit Go.Joins
set_option linter.unusedVariables false

theorem raisedF_has {f : Slots} {n : Nat} {i : Int} (h : hasB n i = true) : raisedF f n i = raiseF f i.toNat := by simp [raisedF, h]
theorem raisedF_no {f : Slots} {n : Nat} {i : Int} (h : hasB n i = false) : raisedF f n i = f := by simp [raisedF, h]
theorem sunkF_has {f : Slots} {n : Nat} {i : Int} (h : hasB n i = true) : sunkF f n i = sinkF f n i.toNat := by simp [sunkF, h]
theorem sunkF_no {f : Slots} {n : Nat} {i : Int} (h : hasB n i = false) : sunkF f n i = f := by simp [sunkF, h]

set_option maxHeartbeats 1000000 in
theorem spRaised_any {v : Value} {n : Nat} {f : Slots} (i : Int) {w : World} (hn : n ≤ 1048576) (h : RowAt w v n f) :
    Calls Try.prog 129 #[v, .int .i64 i] w (NewRow n (raisedF f n i) w) := by
  have HR := Lib.hid h
  clear h
  cases hi : hasB n i
  · rw [raisedF_no hi]
    go_enter Try.func129, Try.ntmps129
    go_wp2_with fail
    go_at_call 128; refine (l2Copy_any hn HR.out).mono ?_; rintro e w1 ⟨v1, rfl, hO, hb⟩
    go_wp2_with fail
    go_at_call 140; refine (l2Has_any f i hn (HR.out.below hb)).mono ?_; rintro e w' ⟨rfl, rfl⟩
    go_wp2
    go_ret
    exact ⟨v1, rfl, hO, hb⟩
  · obtain ⟨i0, i1⟩ := hasB_iff.1 hi
    rw [raisedF_has hi]
    obtain ⟨k0, rfl⟩ : ∃ k0 : Nat, i = k0 := ⟨i.toNat, by omega⟩
    rw [Int.toNat_natCast]
    go_enter Try.func129, Try.ntmps129
    go_wp2_with fail
    go_at_call 128; refine (l2Copy_any hn HR.out).mono ?_; rintro e w1 ⟨v1, rfl, hO, hb⟩
    go_wp2_with fail
    go_at_call 140; refine (l2Has_any f _ hn (HR.out.below hb)).mono ?_; rintro e w' ⟨rfl, rfl⟩
    rcases hO with ⟨rfl, _⟩ | ⟨g, cap, rfl, hO⟩
    · omega
    go_wp2
    go_loopw [1] (fun i wr => ∃ (k : Nat) (f' : Slots), k < n ∧ i = .int .i64 k ∧ OwnAt wr w.heap.size g n cap f' ∧ Below w.heap.size w wr ∧ Hid (raiseF f k0 = raiseF f' k)) (fun i _ => (intOf i).toNat)
    case atStart => exact ⟨k0, f, by omega, rfl, hO, hb, Lib.hid rfl⟩
    case round =>
      obtain ⟨k, f', hk, rfl, hOk, hbk, hf⟩ := hrel
      obtain ⟨c0, c1⟩ := hOk.cells hk
      obtain ⟨p0, p1⟩ := hOk.cells (show (k - 1) / 4 < n by omega)
      have hlt := hOk.lt
      have b2 : (k : Int) < (n : Int) := by omega
      cases hup : upB f' k
      · have hfk := Lib.hid (hf.out.trans (raiseF_stop hup))
        clear hf
        by_cases hz : k = 0
        · subst hz
          clear hup
          go_wp2
          go_quiet (fail)
          go_wp2
          go_ret
          exact ⟨_, rfl, by rw [hfk.out]; exact hOk.own, b_drewN hbk _⟩
        · have hk0 : (0 : Int) < (k : Int) := by omega
          have hd0 : decide (0 < k) = true := by simp; omega
          have e1 : IntKind.i64.wrap ((k : Int) - 1) = ((k - 1 : Nat) : Int) := by rw [IntKind.wrap_i64]; omega
          have e2 : ((k - 1 : Nat) : Int).tdiv 4 = ((k - 1) / 4 : Nat) := by rw [Int.tdiv_eq_ediv_of_nonneg (by omega)]; omega
          have b1 : (((k - 1) / 4 : Nat) : Int) < (n : Int) := by omega
          have hd : decide ((f' k).2 < (f' ((k - 1) / 4)).2) = false := by
            simp only [upB, Bool.and_eq_false_iff, decide_eq_false_iff_not] at hup
            simp only [decide_eq_false_iff_not]
            omega
          clear hup hz
          go_wp2
          go_quiet (fail)
          clear e1 e2
          go_wp2
          go_ret
          exact ⟨_, rfl, by rw [hfk.out]; exact hOk.own, b_drewN hbk _⟩
      · have hfk := Lib.hid (hf.out.trans (raiseF_up hup))
        clear hf
        have hk0 : (0 : Int) < (k : Int) := by simp [upB] at hup; omega
        have hd0 : decide (0 < k) = true := by simp; omega
        have hd : decide ((f' k).2 < (f' ((k - 1) / 4)).2) = true := by simp only [upB, Bool.and_eq_true] at hup; exact hup.2
        have e1 : IntKind.i64.wrap ((k : Int) - 1) = ((k - 1 : Nat) : Int) := by rw [IntKind.wrap_i64]; omega
        have e2 : ((k - 1 : Nat) : Int).tdiv 4 = ((k - 1) / 4 : Nat) := by rw [Int.tdiv_eq_ediv_of_nonneg (by omega)]; omega
        have b1 : (((k - 1) / 4 : Nat) : Int) < (n : Int) := by omega
        clear hup
        go_wp2
        go_quiet (fail)
        generalize hq : World.drewN wr _ = wq
        have hOq : OwnAt wq w.heap.size g n cap f' := hq ▸ hOk.drewN _
        have hbq : Below w.heap.size w wq := hq ▸ b_drewN hbk _
        clear hq c0 c1 p0 p1 hlt hOk hbk
        obtain ⟨c0, c1⟩ := hOq.cells hk
        obtain ⟨p0, p1⟩ := hOq.cells (show (k - 1) / 4 < n by omega)
        have hlt := hOq.lt
        have fr := hOq.free
        have f0 := fr (k * 2)
        have f1 := fr (k * 2 + 1)
        have f2 := fr ((k - 1) / 4 * 2)
        have f3 := fr ((k - 1) / 4 * 2 + 1)
        clear fr
        clear e1 e2
        have hg := hOq.1
        have hqn : (k - 1) / 4 < n := by omega
        go_wp2
        exact ⟨⟨(k - 1) / 4, swapF f' k ((k - 1) / 4), hqn, congrArg (Value.int .i64) (by omega), ((hOq.put hk _ _).put hqn _ _).alloc _,
          ((((hbq.setCell (p := ⟨g, k * 2, none⟩) hg _).setCell (p := ⟨g, k * 2 + 1, none⟩) hg _).setCell (p := ⟨g, (k - 1) / 4 * 2, none⟩) hg _).setCell (p := ⟨g, (k - 1) / 4 * 2 + 1, none⟩) hg _).alloc (by simpa using hbq.size) _, hfk⟩,
          by simp only [intOf]; omega⟩

end Go.Proofs.Ytnmaljieaflnmaa

/-
  The model's PushedOn and PulledOff (spec, chapter 2).
-/
namespace Go.Proofs.Ytnmaljieaflnmaa
open Go.RowKit Go.Joins
set_option linter.unusedVariables false

def pushedF (f : Slots) (n : Nat) (s : Int × Int) : Slots := if n < 30 then raiseF (putF f n s) n else f
def pushedN (n : Nat) : Nat := if n < 30 then n + 1 else n

/-- a call that makes a new list and says yes or no -/
def NewRowB (n : Nat) (f : Slots) (b : Bool) (w : World) (e : Ending) (w' : World) : Prop := ∃ v, e = .returned (.tuple #[v, .bool b]) ∧ OwnRow w' w.heap.size v n f ∧ Below w.heap.size w w'

set_option maxRecDepth 100000 in
set_option maxHeartbeats 1000000 in
theorem spPushed_in {v : Value} {n : Nat} {f : Slots} (a b : Int) {w : World} (hn : n < 30) (h : RowAt w v n f) :
    Calls Try.prog 114 #[v, .agg #[.int .i64 a, .int .i64 b]] w (NewRowB (n + 1) (raiseF (putF f n (a, b)) n) true w) := by
  have HR := Lib.hid h
  obtain ⟨va, vc, hv⟩ := h.form
  clear h
  have hn2 : (n : Int) < 30 := by omega
  subst hv
  go_enter Try.func114, Try.ntmps114
  go_wp2_with fail
  have c0 : (w.alloc (.cells #[.int .i64 a, .int .i64 b] 35)).drew.cell? ⟨w.heap.size, 0, none⟩ = some (.int .i64 a) := cell_of_block (heap_alloc_new w _) 0
  have c1 : (w.alloc (.cells #[.int .i64 a, .int .i64 b] 35)).drew.cell? ⟨w.heap.size, 1, none⟩ = some (.int .i64 b) := cell_of_block (heap_alloc_new w _) 1
  have kb := ((Below.refl w.heap.size w).alloc (Nat.le_refl _) (.cells #[.int .i64 a, .int .i64 b] 35)).drew
  have hs0 : w.heap.size < (w.alloc (.cells #[.int .i64 a, .int .i64 b] 35)).drew.heap.size := by simp
  have d0 : ((w.alloc (.cells #[.int .i64 a, .int .i64 b] 35)).alloc (.cells #[.int .i64 a, .int .i64 b] 35)).drew.cell? ⟨w.heap.size, 0, none⟩ = some (.int .i64 a) := (World.cell?_alloc_lt (w.alloc (.cells #[.int .i64 a, .int .i64 b] 35)) (.cells #[.int .i64 a, .int .i64 b] 35) ⟨w.heap.size, 0, none⟩ hs0).trans c0
  have d1 : ((w.alloc (.cells #[.int .i64 a, .int .i64 b] 35)).alloc (.cells #[.int .i64 a, .int .i64 b] 35)).drew.cell? ⟨w.heap.size, 1, none⟩ = some (.int .i64 b) := (World.cell?_alloc_lt (w.alloc (.cells #[.int .i64 a, .int .i64 b] 35)) (.cells #[.int .i64 a, .int .i64 b] 35) ⟨w.heap.size, 1, none⟩ hs0).trans c1
  have ds : w.heap.size < ((w.alloc (.cells #[.int .i64 a, .int .i64 b] 35)).alloc (.cells #[.int .i64 a, .int .i64 b] 35)).drew.heap.size := by simp; omega
  have kd := (((Below.refl w.heap.size w).alloc (Nat.le_refl _) (.cells #[.int .i64 a, .int .i64 b] 35)).alloc (by simp) (.cells #[.int .i64 a, .int .i64 b] 35)).drew
  have dr : RowAt ((w.alloc (.cells #[.int .i64 a, .int .i64 b] 35)).alloc (.cells #[.int .i64 a, .int .i64 b] 35)).drew (.slice (some ⟨w.heap.size + 1, 0, none⟩) 1 1) 1 (fun _ => (a, b)) := by
    have := one_row (w.alloc (.cells #[.int .i64 a, .int .i64 b] 35)) a b
    rw [show (w.alloc (.cells #[.int .i64 a, .int .i64 b] 35)).heap.size = w.heap.size + 1 by simp] at this
    exact this
  go_region_held3 (fun w' => w'.cell? ⟨w.heap.size, 0, none⟩ = some (.int .i64 a) ∧ w'.cell? ⟨w.heap.size, 1, none⟩ = some (.int .i64 b))
    (first | exact ⟨c0, c1⟩ | exact ⟨d0, d1⟩ | exact ⟨cA0, cA1⟩ | go_keep)
    (first
      | (go_at_call 128; refine (l2Copy_any (by omega) (HR.out.below kb)).mono ?_; rintro e w1 ⟨v1, rfl, hO, hb1⟩
         replace c0 := (hb1.cell (p := ⟨w.heap.size, 0, none⟩) hs0).trans c0; replace c1 := (hb1.cell (p := ⟨w.heap.size, 1, none⟩) hs0).trans c1
         replace kb := kb.trans (hb1.mono (Nat.le_of_lt hs0)); have hsA := Nat.lt_of_lt_of_le hs0 hb1.size; have hBA := Nat.le_trans hb1.size (show w1.heap.size ≤ (w1.alloc (.cells #[.int .i64 a, .int .i64 b] 35)).heap.size by simp)
         have cA0 := (World.cell?_alloc_lt w1 (.cells #[.int .i64 a, .int .i64 b] 35) ⟨w.heap.size, 0, none⟩ hsA).trans c0; have cA1 := (World.cell?_alloc_lt w1 (.cells #[.int .i64 a, .int .i64 b] 35) ⟨w.heap.size, 1, none⟩ hsA).trans c1
         have kA := kb.alloc (Nat.le_of_lt hsA) (.cells #[.int .i64 a, .int .i64 b] 35); have hOA := hO.alloc (.cells #[.int .i64 a, .int .i64 b] 35); have hsrcA := one_row w1 a b; clear d0 d1 ds kd dr)
      | (go_at_call 128; refine (l2Copy_any (by omega) (HR.out.below kd)).mono ?_; rintro e w1 ⟨v1, rfl, hO, hb1⟩
         replace d0 := (hb1.cell (p := ⟨w.heap.size, 0, none⟩) ds).trans d0; replace d1 := (hb1.cell (p := ⟨w.heap.size, 1, none⟩) ds).trans d1
         replace kd := kd.trans (hb1.mono (Nat.le_of_lt ds)); have hsrcD := dr.below hb1; have hBD := hb1.size)
      | (refine step_append_slots rfl (.tmp 12) (.tmp 14) rfl _ v1 n f rfl (row_of_ownrow hOA) _ 1 (fun _ => (a, b)) rfl hsrcA (by omega) hBA ?_; intro v2 w2 hown2 hg2 hat2
         have hb2 := hOA.below_own hg2 hBA; have c0' := (hb2.cell (p := ⟨w.heap.size, 0, none⟩) hs0).trans cA0; have c1' := (hb2.cell (p := ⟨w.heap.size, 1, none⟩) hs0).trans cA1; clear c0 c1
         rw [cellsF_push] at hown2; have hO2 := own_of_row hown2; have k2 := kA.trans (hb2.mono (Nat.le_of_lt hs0)); have c0 := c0'; have c1 := c1'; clear hOA hsrcA kA kb cA0 cA1)
      | (refine step_append_slots rfl (.tmp 12) (.tmp 14) rfl _ v1 n f rfl (row_of_ownrow hO) _ 1 (fun _ => (a, b)) rfl hsrcD (by omega) hBD ?_; intro v2 w2 hown2 hg2 hat2
         have hb2 := hO.below_own hg2 hBD; have c0' := (hb2.cell (p := ⟨w.heap.size, 0, none⟩) ds).trans d0; have c1' := (hb2.cell (p := ⟨w.heap.size, 1, none⟩) ds).trans d1; clear c0 c1
         rw [cellsF_push] at hown2; have hO2 := own_of_row hown2; have k2 := kd.trans (hb2.mono (Nat.le_of_lt ds)); have c0 := c0'; have c1 := c1'; clear hO hsrcD kd kb d0 d1)
      | (go_at_call 129; refine (spRaised_any _ (by omega) hO2.row).mono ?_; rintro e w3 ⟨v3, rfl, hO3, hb3⟩; have hl2 := World.block_lt_of_cell? w2 _ c0; replace c0 := (hb3.cell (p := ⟨w.heap.size, 0, none⟩) hl2).trans c0; replace c1 := (hb3.cell (p := ⟨w.heap.size, 1, none⟩) hl2).trans c1; have k3 := k2.trans (hb3.mono k2.size); have hO4 := hO3.mono k2.size))
  all_goals
    clear HR
    go_wp2
    go_ret2
    exact ⟨v3, rfl, by rw [raisedF_has (hasB_iff.2 ⟨by omega, by omega⟩), Int.toNat_natCast] at hO4; exact hO4, k3⟩

set_option maxHeartbeats 400000 in
theorem spPushed_out {v : Value} {n : Nat} {f : Slots} (a b : Int) {w : World} (hn : 30 ≤ n) (hn1 : n ≤ 1048576) (h : RowAt w v n f) :
    Calls Try.prog 114 #[v, .agg #[.int .i64 a, .int .i64 b]] w (NewRowB n f false w) := by
  have HR := Lib.hid h
  obtain ⟨va, vc, hv⟩ := h.form
  clear h
  have hn2 : (30 : Int) ≤ (n : Int) := by omega
  subst hv
  have kb := (Below.refl w.heap.size w).alloc (Nat.le_refl _) (.cells #[.int .i64 a, .int .i64 b] 35)
  go_enter Try.func114, Try.ntmps114
  go_wp2_with fail
  go_at_call 128; refine (l2Copy_any hn1 (HR.out.below kb)).mono ?_; rintro e w1 ⟨v1, rfl, hO, hb1⟩
  have k1 := kb.trans (hb1.mono kb.size)
  have hO1 := hO.mono kb.size
  clear HR hO hb1 kb
  go_wp2
  go_ret2
  exact ⟨v1, rfl, hO1, k1⟩

theorem spPushed_any {v : Value} {n : Nat} {f : Slots} (a b : Int) {w : World} (hn : n ≤ 1048576) (h : RowAt w v n f) :
    Calls Try.prog 114 #[v, .agg #[.int .i64 a, .int .i64 b]] w (NewRowB (pushedN n) (pushedF f n (a, b)) (decide (n < 30)) w) := by
  by_cases h30 : n < 30
  · rw [pushedN, if_pos h30, pushedF, if_pos h30, decide_eq_true h30]
    exact spPushed_in a b h30 h
  · rw [pushedN, if_neg h30, pushedF, if_neg h30, decide_eq_false h30]
    exact spPushed_out a b (by omega) hn h

/-! ### PulledOff -/
def pulledF (f : Slots) (n : Nat) (i : Int) : Slots :=
  if hasB n i then (if i < (n : Int) - 1 then sunkF (raisedF (putF f i.toNat (f (n - 1))) (n - 1) i) (n - 1) i else f) else f
def pulledN (n : Nat) (i : Int) : Nat := if hasB n i then n - 1 else n
def pulledS (f : Slots) (n : Nat) (i : Int) : Int × Int := if hasB n i then f i.toNat else (0, 0)

theorem pulledF_mid {f : Slots} {n k : Nat} (h : k < n - 1) : pulledF f n (k : Int) = sunkF (raisedF (putF f k (f (n - 1))) (n - 1) k) (n - 1) k := by
  rw [pulledF, if_pos (hasB_iff.2 ⟨by omega, by omega⟩), if_pos (by omega), Int.toNat_natCast]
theorem pulledF_last {f : Slots} {n k : Nat} (hk : k < n) (h : ¬ k < n - 1) : pulledF f n (k : Int) = f := by
  rw [pulledF, if_pos (hasB_iff.2 ⟨by omega, by omega⟩), if_neg (by omega)]
/-- a call that makes a new list, hands a slot back and says yes or no -/
def NewRowS (n : Nat) (f : Slots) (s : Int × Int) (b : Bool) (w : World) (e : Ending) (w' : World) : Prop := ∃ v, e = .returned (.tuple #[v, .agg #[.int .i64 s.1, .int .i64 s.2], .bool b]) ∧ OwnRow w' w.heap.size v n f ∧ Below w.heap.size w w'

end Go.Proofs.Ytnmaljieaflnmaa

/-
  The exact laws on heaps, told what the program's own functions answer.
-/
namespace Go.Proofs.Ytnmaljieaflnmaa
open Go.RowKit Go.Joins
set_option linter.unusedVariables false

/-- what a sift of the program's is to answer -/
def Sifts (fn : FuncId) (M : Slots → Nat → Int → Slots) : Prop := ∀ (v : Value) (n : Nat) (f : Slots) (i : Int) (w : World), n ≤ 1048576 → RowAt w v n f → Calls Try.prog fn #[v, .int .i64 i] w (NewRow n (M f n i) w)
/-- the law's size test: too long -/
theorem big_n {n : Nat} (h : ¬ n ≤ 1048576) : (if (1048576 : Int) < (n : Int) then (-1 : Int) else 1048576 - (n : Int)) = -1 := if_pos (by omega)
theorem small_n {n : Nat} (h : n ≤ 1048576) : (if (1048576 : Int) < (n : Int) then (-1 : Int) else 1048576 - (n : Int)) = 1048576 - (n : Int) := if_neg (by omega)

/-! ### exRaised -/
/-! ### exSunk -/
/-- what a question of the program's is to answer -/
def AsksB (fn : FuncId) (M : Slots → Nat → Bool) : Prop := ∀ (v : Value) (n : Nat) (f : Slots) (w : World), n ≤ 1048576 → RowAt w v n f → Calls Try.prog fn #[v] w fun e w' => e = .returned (.bool (M f n)) ∧ Below w.heap.size w w'
def AsksI (fn : FuncId) (M : Slots → Nat → Int → Int) : Prop := ∀ (v : Value) (n : Nat) (f : Slots) (i : Int) (w : World), n ≤ 1048576 → RowAt w v n f → Calls Try.prog fn #[v, .int .i64 i] w fun e w' => e = .returned (.int .i64 (M f n i)) ∧ Below w.heap.size w w'
theorem spHeapOk_low {v : Value} {n : Nat} (f : Slots) {w : World} (hn : n ≤ 1048576) (h : RowAt w v n f) :
    Calls Try.prog 53 #[v] w fun e w' => e = .returned (.bool (heapB f n)) ∧ Below w.heap.size w w' :=
  (spHeapOk_any f hn h).mono fun e w' ⟨m, he, hw⟩ => ⟨he, by rw [hw]; exact b_drewN (Below.refl _ _) m⟩
def findM (f : Slots) (n : Nat) (i : Int) : Int := findFrom f n i 0
theorem spFindSlot_low {v : Value} {n : Nat} (f : Slots) (i : Int) {w : World} (hn : n ≤ 1048576) (h : RowAt w v n f) :
    Calls Try.prog 66 #[v, .int .i64 i] w fun e w' => e = .returned (.int .i64 (findM f n i)) ∧ Below w.heap.size w w' :=
  (spFindSlot_any f i hn h).mono fun e w' ⟨he, hw⟩ => ⟨he, by rw [← hw]; exact Below.refl _ _⟩

/-! ### exHeapOk -/
/-! ### exFindSlot -/
/-! ### exPulled: a list and a slot and a word, asked of one list and one number -/
theorem blk_step {w w' : World} {b : Nat} {o : Obj} (h : w.heap[b]? = some o) (hb : Below w.heap.size w w') : w'.heap[b]? = some o := b_block hb h (lt_of_block h)
theorem blk_kept {w w' : World} {b : Nat} {o : Obj} {ob : Option Nat} (h : w.heap[b]? = some o) (hg : w.grownBy w' ob) (hne : ∀ g, ob = some g → g ≠ b) : w'.heap[b]? = some o :=
  (hg.block b (lt_of_block h) (by intro e; exact hne b e.symm rfl)).trans h

theorem pulledN_le {n : Nat} (i : Int) (hn : n ≤ 1048576) : pulledN n i ≤ 1048576 := by unfold pulledN; split <;> omega
/-- what the program's PulledOff is to answer -/
def Pulls (fn : FuncId) : Prop := ∀ (v : Value) (n : Nat) (f : Slots) (i : Int) (w : World), n ≤ 1048576 → RowAt w v n f → Calls Try.prog fn #[v, .int .i64 i] w (NewRowS (pulledN n i) (pulledF f n i) (pulledS f n i) (hasB n i) w)

end Go.Proofs.Ytnmaljieaflnmaa
