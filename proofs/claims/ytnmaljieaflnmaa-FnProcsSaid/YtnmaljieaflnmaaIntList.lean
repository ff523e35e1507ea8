/-
  Lists of numbers in memory: one that is read, one that the call itself made; append.
-/
import Derived.Test.YtnmaljieaflnmaaHeapSpec
namespace Go.Proofs.Ytnmaljieaflnmaa
open Go.RowKit Go.Joins
set_option linter.unusedVariables false

abbrev Ints := Nat → Int
def RowIAt (w : World) (v : Value) (n : Nat) (f : Ints) : Prop :=
  (n = 0 ∧ ∃ a cap, v = .slice a 0 cap) ∨ ∃ b off cap, v = .slice (some ⟨b, off, none⟩) n cap ∧ b < w.heap.size ∧ ∀ i, i < n → w.cell? ⟨b, off + i, none⟩ = some (.int .i64 (f i))
theorem RowIAt.form {w : World} {v : Value} {n : Nat} {f : Ints} (h : RowIAt w v n f) : ∃ a cap, v = .slice a n cap := by
  rcases h with ⟨rfl, a, cap, rfl⟩ | ⟨b, off, cap, rfl, _⟩
  · exact ⟨_, _, rfl⟩
  · exact ⟨_, _, rfl⟩
theorem RowIAt.below {w w' : World} {v : Value} {n : Nat} {f : Ints} (h : RowIAt w v n f) (hb : Below w.heap.size w w') : RowIAt w' v n f := by
  rcases h with h | ⟨b, off, cap, rfl, hl, hc⟩
  · exact .inl h
  · exact .inr ⟨b, off, cap, rfl, Nat.lt_of_lt_of_le hl hb.size, fun i hi => (hb.cell (p := ⟨b, off + i, none⟩) hl).trans (hc i hi)⟩
def IntIn (cur : Array Value) (n : Nat) (f : Ints) : Prop := ∀ i, i < n → cur[i]? = some (.int .i64 (f i))
def OwnIAt (w : World) (B g n cap : Nat) (f : Ints) : Prop :=
  B ≤ g ∧ n ≤ cap ∧ cap ≤ maxLen ∧ ∃ cur, w.heap[g]? = some (.cells cur 2 (0, 0)) ∧ cur.size = cap ∧ IntIn cur n f
/-- a list of the call's own: none, or in a block of its own (which an empty one may have, too) -/
def OwnIRow (w : World) (B : Nat) (v : Value) (n : Nat) (f : Ints) : Prop :=
  (n = 0 ∧ ∃ a cap, v = .slice a 0 cap) ∨ ∃ g cap, v = .slice (some ⟨g, 0, none⟩) n cap ∧ OwnIAt w B g n cap f
theorem OwnIAt.lt {w : World} {B g n cap : Nat} {f : Ints} (h : OwnIAt w B g n cap f) : g < w.heap.size := by
  obtain ⟨_, _, _, cur, hh, _⟩ := h
  exact lt_of_block hh
theorem OwnIAt.cells {w : World} {B g n cap : Nat} {f : Ints} (h : OwnIAt w B g n cap f) {i : Nat} (hi : i < n) : w.cell? ⟨g, i, none⟩ = some (.int .i64 (f i)) := by
  obtain ⟨_, _, _, cur, hh, _, hr⟩ := h
  exact (cell_of_block hh _).trans (hr i hi)
theorem OwnIAt.free {w : World} {B g n cap : Nat} {f : Ints} (h : OwnIAt w B g n cap f) (o : Nat) : w.frozen? ⟨g, o, none⟩ = false := by
  obtain ⟨_, _, _, cur, hh, _⟩ := h
  exact unfrozen_of_block hh o
theorem OwnIAt.row {w : World} {B g n cap : Nat} {f : Ints} (h : OwnIAt w B g n cap f) : RowIAt w (.slice (some ⟨g, 0, none⟩) n cap) n f :=
  .inr ⟨g, 0, cap, rfl, h.lt, fun i hi => by simpa using h.cells hi⟩
theorem OwnIRow.row {w : World} {B n : Nat} {v : Value} {f : Ints} (h : OwnIRow w B v n f) : RowIAt w v n f := by
  rcases h with ⟨rfl, a, c, rfl⟩ | ⟨g, cap, rfl, h⟩
  · exact .inl ⟨rfl, _, _, rfl⟩
  · exact h.row
theorem OwnIAt.block {w w' : World} {B g n cap : Nat} {f : Ints} (h : OwnIAt w B g n cap f) (e : w'.heap[g]? = w.heap[g]?) : OwnIAt w' B g n cap f := by
  obtain ⟨h1, h2, h3, cur, hh, r⟩ := h
  exact ⟨h1, h2, h3, cur, e.trans hh, r⟩
theorem OwnIRow.below {w w' : World} {B n : Nat} {v : Value} {f : Ints} (h : OwnIRow w B v n f) (hb : Below w.heap.size w w') : OwnIRow w' B v n f := by
  rcases h with h | ⟨g, cap, e, h⟩
  · exact .inl h
  · exact .inr ⟨g, cap, e, h.block (hb.block g h.lt)⟩
theorem OwnIRow.mono {w : World} {B B' n : Nat} {v : Value} {f : Ints} (h : OwnIRow w B v n f) (hB : B' ≤ B) : OwnIRow w B' v n f := by
  rcases h with h | ⟨g, cap, e, h1, h2⟩
  · exact .inl h
  · exact .inr ⟨g, cap, e, Nat.le_trans hB h1, h2⟩
def putI (f : Ints) (i : Nat) (x : Int) : Ints := fun k => if k = i then x else f k
theorem OwnIAt.put {w : World} {B g n cap : Nat} {f : Ints} (h : OwnIAt w B g n cap f) {k : Nat} (hk : k < n) (x : Int) : OwnIAt (w.setCell ⟨g, k, none⟩ (.int .i64 x)) B g n cap (putI f k x) := by
  obtain ⟨h1, h2, h3, cur, hh, hs, hr⟩ := h
  refine ⟨h1, h2, h3, _, block_setCell hh (i := k) _, by simp [hs], fun i hi => ?_⟩
  unfold putI
  by_cases e : i = k
  · subst e
    rw [if_pos rfl, Array.getElem?_setIfInBounds_self_of_lt (by omega)]
  · rw [if_neg e, Array.getElem?_setIfInBounds_ne (by omega)]; exact hr i hi
theorem OwnIAt.congr {w : World} {B g n cap : Nat} {f f' : Ints} (h : OwnIAt w B g n cap f) (e : ∀ i, i < n → f i = f' i) : OwnIAt w B g n cap f' := by
  obtain ⟨h1, h2, h3, cur, hh, hs, hr⟩ := h
  exact ⟨h1, h2, h3, cur, hh, hs, fun i hi => by rw [← e i hi]; exact hr i hi⟩


/-! ### append -/
def cellsI (f : Ints) : Nat → List Value
  | 0 => []
  | n + 1 => cellsI f n ++ [.int .i64 (f n)]
theorem cellsI_length (f : Ints) : ∀ n, (cellsI f n).length = n
  | 0 => rfl
  | n + 1 => by rw [cellsI, List.length_append, cellsI_length f n]; rfl
theorem cellsI_get (f : Ints) : ∀ n i, i < n → (cellsI f n)[i]? = some (.int .i64 (f i))
  | 0, i, h => absurd h (Nat.not_lt_zero _)
  | n + 1, i, h => by
    rw [cellsI]
    by_cases e : i = n
    · subst e
      rw [List.getElem?_append_right (by rw [cellsI_length]; omega), cellsI_length]; simp
    · rw [List.getElem?_append_left (by rw [cellsI_length]; omega)]; exact cellsI_get f n i (by omega)
theorem cellsI_push (f : Ints) (n : Nat) (x : Int) : cellsI f n ++ [.int .i64 x] = cellsI (putI f n x) (n + 1) := by
  rw [cellsI]
  have : ∀ k, k ≤ n → cellsI f k = cellsI (putI f n x) k := by
    intro k
    induction k with
    | zero => intro _; rfl
    | succ k ih => intro hk; rw [cellsI, cellsI, ih (by omega), putI, if_neg (by omega)]
  rw [this n (Nat.le_refl _), putI, if_pos rfl]
theorem int_info : (Try.prog.info? 2).map (fun i => (i.zero, i.size, i.bytes)) = some (some (.int .i64 0), 1, 8) := by kernel_rfl
theorem owni_of_row {w : World} {B n : Nat} {v : Value} {f : Ints} (h : w.ownsRow B 2 1 v n (cellsI f n)) : OwnIRow w B v n f := by
  rcases h.2 with ⟨rfl, rfl⟩ | ⟨g, cap, cur, rfl, hB, hg, hn, hcm, hs, ht⟩
  · exact .inl ⟨rfl, _, _, rfl⟩
  · refine .inr ⟨g, cap, rfl, hB, hn, hcm, cur, hg, by simpa using hs, fun i hi => ?_⟩
    have h1 := cellsI_get f n i hi
    rw [← ht, List.getElem?_take_of_lt (by omega)] at h1
    simpa using h1

theorem owns_below {w w' : World} {B n size : Nat} {e : TypeId} {v : Value} {xs : List Value} (h : w.ownsRow B e size v n xs) (hb : Below w.heap.size w w') : w'.ownsRow B e size v n xs := by
  refine ⟨h.1, ?_⟩
  rcases h.2 with h2 | ⟨g, cap, cur, ev, hB, hg, r⟩
  · exact .inl h2
  · exact .inr ⟨g, cap, cur, ev, hB, (hb.block g (lt_of_block hg)).trans hg, r⟩
theorem owns_form {w : World} {B n size : Nat} {e : TypeId} {v : Value} {xs : List Value} (h : w.ownsRow B e size v n xs) : ∃ a cap, v = .slice a n cap := by
  rcases h.2 with ⟨rfl, rfl⟩ | ⟨g, cap, cur, rfl, _⟩
  · exact ⟨_, _, rfl⟩
  · exact ⟨_, _, rfl⟩
theorem owns_ge {w : World} {B n size : Nat} {e : TypeId} {v : Value} {xs : List Value} (h : w.ownsRow B e size v n xs) : ∀ x, v.ownBlock = some x → B ≤ x := by
  intro x hx
  rcases h.2 with ⟨rfl, rfl⟩ | ⟨g, cap, cur, rfl, hB, _⟩
  · simp [Value.ownBlock] at hx
  · simp [Value.ownBlock] at hx
    subst hx
    exact hB
theorem b_grownV {a w : World} {B : Nat} {ob : Option Nat} (h : a.grownBy w ob) (hx : ∀ x, ob = some x → B ≤ x) (hs : B ≤ a.heap.size) : Below B a w :=
  ⟨h.os, h.tape, h.output, h.size, fun i hi => h.block i (by omega) (fun e => by have := hx i e.symm; omega)⟩
/-- the one cell that append's last argument lies in -/
theorem int_new {w : World} {b : Nat} (x : Int) (h : b = w.heap.size) : (w.alloc (.cells #[.int .i64 x] 2)).cell? ⟨b, 0, none⟩ = some (.int .i64 x) := by
  subst h
  exact cell_of_block (heap_alloc_new w _) 0
/-- a list of no numbers that was just made -/
theorem rowi_new {w : World} {b B : Nat} (h : b = w.heap.size) (hB : B ≤ w.heap.size) : (w.alloc (.cells #[] 2)).ownsRow B 2 1 (.slice (some ⟨b, 0, none⟩) 0 0) 0 (cellsI (fun _ => 0) 0) := by
  subst h
  exact World.ownsRow_made w (base := B) (e := 2) (size := 1) #[] 0 hB (Nat.zero_le _) rfl

theorem run_append_int (w : World) (B : Nat) (ty : TypeId) (v : Value) (n : Nat) (f : Ints) (hown : w.ownsRow B 2 1 v n (cellsI f n)) (b : Nat) (x : Int) (hc : w.cell? ⟨b, 0, none⟩ = some (.int .i64 x)) (hn : n + 1 ≤ 4194304) (hB : B ≤ w.heap.size) :
    ∃ v' w', (Builtin.append_ #[63, 63] ty #[v, .slice (some ⟨b, 0, none⟩) 1 1]).run Try.prog w = .ok v' w' ∧ w'.ownsRow B 2 1 v' (n + 1) (cellsI (putI f n x) (n + 1)) ∧ w.grownBy w' v.ownBlock ∧ (v'.ownBlock = v.ownBlock ∨ v'.ownBlock = some w.heap.size) := by
  obtain ⟨i0, hi, hz, hs, hby⟩ := info_parts int_info
  have hbytes : (n + 1) * 8 ≤ 140737488355328 := by omega
  have h63 : n + 1 ≤ maxLen := by unfold maxLen; omega
  obtain ⟨v', w', hrun, h2, h3, _, h5⟩ := run_append_own_at (P := Try.prog) w B 63 ty 2 i0 _ 1 8 Try.underlying63 hi hz hs hby rfl (by decide) v n _ hown ⟨b, 0, none⟩ 1 1 [.int .i64 x] rfl
    (fun j u hu => by
      match j, hu with
      | 0, hu => simp at hu; subst hu; simpa [Addr.add] using hc) (by simp [Value.oneCell']) h63 hbytes hB
  exact ⟨v', w', hrun, by rw [← cellsI_push]; exact h2, h3, h5⟩

theorem wp_append_int {o : Oper} {a : Act} {K : Act → World → Prop} {Q : Exit → Act → World → Prop} {w : World} (s x : Operand)
    (ho : o.op = .call { callee := .builtin .append, args := #[s, x], argTypes := #[63, 63] })
    (B : Nat) (v : Value) (n : Nat) (f : Ints) (hs : a.eval s = v) (hown : w.ownsRow B 2 1 v n (cellsI f n)) (b : Nat) (y : Int) (hx : a.eval x = .slice (some ⟨b, 0, none⟩) 1 1) (hc : w.cell? ⟨b, 0, none⟩ = some (.int .i64 y)) (hn : n + 1 ≤ 4194304) (hB : B ≤ w.heap.size)
    (hK : ∀ v' w', w'.ownsRow B 2 1 v' (n + 1) (cellsI (putI f n y) (n + 1)) → w.grownBy w' v.ownBlock → (v'.ownBlock = v.ownBlock ∨ v'.ownBlock = some w.heap.size) → K (a.put o.dst v') w') : o.wp Try.prog a w K Q := by
  obtain ⟨v', w', hr, h2, h3, h4⟩ := run_append_int w B o.type v n f hown b y hc hn hB
  unfold Oper.wp execOp
  simp only [ho, resolve, invoke, builtin, Sem.run_bind, Sem.run_pure, Result.andThen_ok, List.map_toArray, List.map_cons, List.map_nil, hs, hx, hr]
  exact hK v' w' h2 h3 h4
theorem wpList_append_int {ops : Array Oper} {rest : List Oper} {o : Oper} {a : Act} {Q : Exit → Act → World → Prop} {w : World} (hgd : o.guard = none) (s x : Operand)
    (ho : o.op = .call { callee := .builtin .append, args := #[s, x], argTypes := #[63, 63] })
    (B : Nat) (v : Value) (n : Nat) (f : Ints) (hs : a.eval s = v) (hown : w.ownsRow B 2 1 v n (cellsI f n)) (b : Nat) (y : Int) (hx : a.eval x = .slice (some ⟨b, 0, none⟩) 1 1) (hc : w.cell? ⟨b, 0, none⟩ = some (.int .i64 y)) (hn : n + 1 ≤ 4194304) (hB : B ≤ w.heap.size)
    (hK : ∀ v' w', w'.ownsRow B 2 1 v' (n + 1) (cellsI (putI f n y) (n + 1)) → w.grownBy w' v.ownBlock → (v'.ownBlock = v.ownBlock ∨ v'.ownBlock = some w.heap.size) → wpList Try.prog ops Q rest (a.put o.dst v') w') : wpList Try.prog ops Q (o :: rest) a w :=
  wpList_plain hgd fun _ hK' => wp_append_int s x ho B v n f hs hown b y hx hc hn hB fun v' w' h2 h3 h4 => hK' _ _ (hK v' w' h2 h3 h4)
theorem step_append_int {ops : Array Oper} {o : Oper} {a : Act} {K : Act → World → Prop} {Q : Exit → Act → World → Prop} {E : Prop} {w : World} (hgd : o.guard = none) (s x : Operand)
    (ho : o.op = .call { callee := .builtin .append, args := #[s, x], argTypes := #[63, 63] })
    (B : Nat) (v : Value) (n : Nat) (f : Ints) (hs : a.eval s = v) (hown : w.ownsRow B 2 1 v n (cellsI f n)) (b : Nat) (y : Int) (hx : a.eval x = .slice (some ⟨b, 0, none⟩) 1 1) (hc : w.cell? ⟨b, 0, none⟩ = some (.int .i64 y)) (hn : n + 1 ≤ 4194304) (hB : B ≤ w.heap.size)
    (hK : ∀ v' w', w'.ownsRow B 2 1 v' (n + 1) (cellsI (putI f n y) (n + 1)) → w.grownBy w' v.ownBlock → (v'.ownBlock = v.ownBlock ∨ v'.ownBlock = some w.heap.size) → K (a.put o.dst v') w') :
    if Region.wanted o (yielded ops a.tmps) = true then Oper.wp Try.prog o a w K Q else E := by
  have hw : Region.wanted o (yielded ops a.tmps) = true := by simp [Region.wanted, hgd]
  rw [if_pos hw]
  exact wp_append_int s x ho B v n f hs hown b y hx hc hn hB hK

end Go.Proofs.Ytnmaljieaflnmaa
