/-
  The program's Passes: it reads the table of what may become what; what the table holds is the row's own premise.
-/
import Derived.Test.YthhpnepcfpapcaaDoorTimerImpl
import Derived.Test.YthhpnepcfpapcaaDoorBase
import Derived.Test.YthhpnepcfpapcaaDoorRows
import Derived.LaidMore
import Derived.OpenShut
import Derived.FnData
namespace Go.Proofs.YthhpnepcfpapcaaDoor
open Go.ChangeShapes Go.WideShapes Go.ChangeAt Go.WideElems Go.RowKit
set_option linter.unusedVariables false

/-- the table's one cell: may status i become status j? -/
abbrev tabCell (i j : Nat) : Bool := passB i j
/-- the table lies in memory -/
def TabAt (w : World) : Prop := 0 < w.heap.size ∧ ∀ i j : Nat, i < 8 → j < 8 → w.cell? ⟨0, i * 8 + j, none⟩ = some (.bool (tabCell i j))
theorem TabAt.step {w w' : World} (h : TabAt w) (hb : Below w.heap.size w w') : TabAt w' :=
  ⟨Nat.lt_of_lt_of_le h.1 hb.size, fun i j hi hj => (hb.cell (p := ⟨0, i * 8 + j, none⟩) h.1).trans (h.2 i j hi hj)⟩
theorem TabAt.from {n : Nat} {w w' : World} (h : TabAt w) (hn : 0 < n) (hb : Below n w w') : TabAt w' :=
  ⟨Nat.lt_of_lt_of_le h.1 hb.size, fun i j hi hj => (hb.cell (p := ⟨0, i * 8 + j, none⟩) hn).trans (h.2 i j hi hj)⟩

abbrev laidTab : List (String × DataW Unit) := [("loop.example/g00743/impl.mayBecome", Rows.laid_loop_example_g00743_impl_mayBecome)]
theorem gTab : Tryd.prog.globalNamed "loop.example/g00743/impl.mayBecome" = some 0 := by kernel_rfl
theorem tTab : (Tryd.prog.globals[0]?).map (·.type) = some 55 := by kernel_rfl
theorem cTab : Tryd.prog.cellsOf 55 = 64 := by kernel_rfl
theorem cRow : Tryd.prog.cellsOf 54 = 8 := by kernel_rfl
theorem cBool : Tryd.prog.cellsOf 4 = 1 := by kernel_rfl
/-- row i of the datum -/
abbrev rowD (i : Nat) : DataW Unit := .agg [.lit (.bool (tabCell i 0)), .lit (.bool (tabCell i 1)), .lit (.bool (tabCell i 2)), .lit (.bool (tabCell i 3)), .lit (.bool (tabCell i 4)), .lit (.bool (tabCell i 5)), .lit (.bool (tabCell i 6)), .lit (.bool (tabCell i 7))]
theorem laid_rows : (Rows.laid_loop_example_g00743_impl_mayBecome : DataW Unit) = .agg [rowD 0, rowD 1, rowD 2, rowD 3, rowD 4, rowD 5, rowD 6, rowD 7] := by rfl

theorem len8 {α : Type} {l : List α} (h : l.length = 8) : ∃ a b c d e f g k, l = [a, b, c, d, e, f, g, k] := by
  match l, h with
  | [a, b, c, d, e, f, g, k], _ => exact ⟨a, b, c, d, e, f, g, k, rfl⟩

/-- one row of the table, opened -/
theorem open_row {enc : TypeId × Value → Unit} {W : World} {base : Nat} {sp : Nat → Bool} {hd : Bool} {m : Nat} {cs : List Value} {x : DataW Unit × List MemPlace} {i : Nat}
    (h : DataW.trod enc Tryd.prog W base sp hd m 54 cs = some x) (hx : x.1 = rowD i) : ∀ j, j < 8 → cs[j]? = some (.bool (tabCell i j)) := by
  obtain ⟨xs, m1, rfl, rfl, hlen, hn, hel⟩ := DataW.trod_array Tryd.underlying54 h
  rw [cRow] at hlen
  rw [cBool] at hel
  intro j hj
  have h1 := hel j hj
  obtain ⟨x0, x1, x2, x3, x4, x5, x6, x7, rfl⟩ := len8 hn
  obtain ⟨c0, c1, c2, c3, c4, c5, c6, c7, rfl⟩ := len8 hlen
  simp only [List.map_cons, List.map_nil, DataW.agg.injEq, List.cons.injEq, and_true] at hx
  obtain ⟨e0, e1, e2, e3, e4, e5, e6, e7⟩ := hx
  have key : ∀ {c : Value} {y : DataW Unit × List MemPlace} {b : Bool}, DataW.trod enc Tryd.prog W base sp hd m1 4 [c] = some y → y.1 = .lit (.bool b) → c = .bool b := by
    intro c y b hc hy
    obtain ⟨k, z1, z2⟩ := DataW.trod_bool Tryd.underlying4 hc
    subst z2
    simp only [DataW.lit.injEq, Lit.bool.injEq] at hy
    subst hy
    simpa using z1
  match j, hj with
  | 0, _ => exact congrArg some (key h1 e0)
  | 1, _ => exact congrArg some (key h1 e1)
  | 2, _ => exact congrArg some (key h1 e2)
  | 3, _ => exact congrArg some (key h1 e3)
  | 4, _ => exact congrArg some (key h1 e4)
  | 5, _ => exact congrArg some (key h1 e5)
  | 6, _ => exact congrArg some (key h1 e6)
  | 7, _ => exact congrArg some (key h1 e7)

theorem lt_of_cellB {w : World} {a : Addr} {v : Value} (h : w.cell? a = some v) : a.block < w.heap.size := by
  by_cases hn : a.block < w.heap.size
  · exact hn
  · have h0 : w.heap[a.block]? = none := Array.getElem?_eq_none (by omega)
    simp [World.cell?, h0] at h

theorem tab_of_laid {W : World} (h : laidMetH Tryd.prog laidTab W) : TabAt W := by
  rw [MakeChecks.laidMetH_plain _ _ _ (by kernel_rfl)] at h
  obtain ⟨ps, ⟨g, t, cs, f, p, q, hg, ht, hv, hd, _, _⟩, _, _⟩ := h
  obtain rfl := Option.some.inj (gTab.symm.trans hg)
  obtain rfl := Option.some.inj (tTab.symm.trans ht)
  rw [laid_rows] at hd
  obtain ⟨xs, m, rfl, hx, hlen, hn, hel⟩ := DataW.trod_array Tryd.underlying55 hd
  rw [cTab] at hlen
  rw [cRow] at hel
  simp only [Prod.mk.injEq] at hx
  obtain ⟨x0, x1, x2, x3, x4, x5, x6, x7, rfl⟩ := len8 hn
  have hx1 := hx.1
  simp only [List.map_cons, List.map_nil, DataW.agg.injEq, List.cons.injEq, and_true] at hx1
  obtain ⟨e0, e1, e2, e3, e4, e5, e6, e7⟩ := hx1
  have cell : ∀ k, W.cell? ⟨0, k, none⟩ = cs.toList[k]? := fun k => by
    rw [World.var?_cell hg hv k, Array.getElem?_toList]
  have row : ∀ i j : Nat, i < 8 → j < 8 → cs.toList[i * 8 + j]? = some (.bool (tabCell i j)) := by
    intro i j hi hj
    have key : ∀ {y : DataW Unit × List MemPlace}, DataW.trod (fun _ => ()) Tryd.prog W 0 (fun _ => true) false m 54 ((cs.toList.drop (i * 8)).take 8) = some y → y.1 = rowD i → cs.toList[i * 8 + j]? = some (.bool (tabCell i j)) := by
      intro y hy he
      have := open_row hy he j hj
      rw [List.getElem?_take_of_lt hj, List.getElem?_drop] at this
      exact this
    match i, hi with
    | 0, _ => exact key (hel 0 (by decide)) e0.symm
    | 1, _ => exact key (hel 1 (by decide)) e1.symm
    | 2, _ => exact key (hel 2 (by decide)) e2.symm
    | 3, _ => exact key (hel 3 (by decide)) e3.symm
    | 4, _ => exact key (hel 4 (by decide)) e4.symm
    | 5, _ => exact key (hel 5 (by decide)) e5.symm
    | 6, _ => exact key (hel 6 (by decide)) e6.symm
    | 7, _ => exact key (hel 7 (by decide)) e7.symm
  refine ⟨?_, fun i j hi hj => (cell _).trans (row i j hi hj)⟩
  have h0 := (cell 0).trans (row 0 0 (by decide) (by decide))
  exact lt_of_cellB h0

/-- what the program's Passes is to answer -/
def AsksP (fn : FuncId) : Prop := ∀ (a b : Int) (w : World), TabAt w → Calls Tryd.prog fn #[.int .i64 a, .int .i64 b] w fun e w' => e = .returned (.bool (passB a b)) ∧ Below w.heap.size w w'

set_option maxRecDepth 100000 in
set_option maxHeartbeats 2000000 in
theorem passesTo_at (i j : Nat) (hi : i < 8) (hj : j < 8) (w : World) (h : TabAt w) :
    Calls Tryd.prog 31 #[.int .i64 (i : Int), .int .i64 (j : Int)] w fun e w' => e = .returned (.bool (passB i j)) ∧ Below w.heap.size w w' := by
  have hc := h.2 i j hi hj
  have ki : inB (i : Int) 0 7 = true := inB_iff.2 ⟨by omega, by omega⟩
  have kj : inB (j : Int) 0 7 = true := inB_iff.2 ⟨by omega, by omega⟩
  have KI := Lib.hid ki
  have KJ := Lib.hid kj
  clear ki kj
  go_enter Tryd.func31, Tryd.ntmps31
  go_wp2_with fail
  go_at_call 39; refine (known_any _ _).mono ?_; rw [KI.out]; rintro e w' ⟨rfl, rfl⟩
  go_wp2_with fail
  go_at_call 39; refine (known_any _ _).mono ?_; rw [KJ.out]; rintro e w' ⟨rfl, rfl⟩
  go_wp2
  go_ret
  exact ⟨rfl, Below.refl _ _⟩

theorem passB_low {a b : Int} (h : inB a 0 7 = false) : passB a b = false := by
  have k : ¬ (0 ≤ a ∧ a ≤ 7) := fun hx => by rw [inB_iff.2 hx] at h; cases h
  unfold passB
  repeat' (first | rw [if_neg (by omega)])
theorem passB_high {a b : Int} (h : inB b 0 7 = false) : passB a b = false := by
  have k : ¬ (0 ≤ b ∧ b ≤ 7) := fun hx => by rw [inB_iff.2 hx] at h; cases h
  have e : ∀ n : Int, 0 ≤ n → n ≤ 7 → (b == n) = false := fun n h0 h7 => by
    apply beq_eq_false_iff_ne.2; omega
  unfold passB
  simp [e 0 (by decide) (by decide), e 1 (by decide) (by decide), e 2 (by decide) (by decide), e 3 (by decide) (by decide), e 4 (by decide) (by decide), e 5 (by decide) (by decide), e 6 (by decide) (by decide), e 7 (by decide) (by decide)]

set_option maxHeartbeats 1000000 in
theorem passesTo_any (a b : Int) (w : World) (h : TabAt w) :
    Calls Tryd.prog 31 #[.int .i64 a, .int .i64 b] w fun e w' => e = .returned (.bool (passB a b)) ∧ Below w.heap.size w w' := by
  cases ha : inB a 0 7
  · rw [passB_low ha]
    have KA := Lib.hid ha
    clear ha h
    go_enter Tryd.func31, Tryd.ntmps31
    go_wp2_with fail
    go_at_call 39; refine (known_any _ _).mono ?_; rw [KA.out]; rintro e w' ⟨rfl, rfl⟩
    go_wp2
    go_ret
    exact ⟨rfl, Below.refl _ _⟩
  cases hb : inB b 0 7
  · rw [passB_high hb]
    have KA := Lib.hid ha
    have KB := Lib.hid hb
    clear ha hb h
    go_enter Tryd.func31, Tryd.ntmps31
    go_wp2_with fail
    go_at_call 39; refine (known_any _ _).mono ?_; rw [KA.out]; rintro e w' ⟨rfl, rfl⟩
    go_wp2_with fail
    go_at_call 39; refine (known_any _ _).mono ?_; rw [KB.out]; rintro e w' ⟨rfl, rfl⟩
    go_wp2
    go_ret
    exact ⟨rfl, Below.refl _ _⟩
  have h1 := inB_iff.1 ha
  have h2 := inB_iff.1 hb
  have e1 : ((a.toNat : Nat) : Int) = a := Int.toNat_of_nonneg h1.1
  have e2 : ((b.toNat : Nat) : Int) = b := Int.toNat_of_nonneg h2.1
  have := passesTo_at a.toNat b.toNat (by omega) (by omega) w h
  rw [e1, e2] at this
  exact this

set_option maxHeartbeats 400000 in
theorem imPasses_any : AsksP 11 := by
  intro a b w h
  have H := Lib.hid h
  clear h
  go_enter Tryd.func11, Tryd.ntmps11
  go_wp2_with fail
  go_at_call 31; refine (passesTo_any _ _ _ H.out).mono ?_; rintro e w' ⟨rfl, hb⟩
  go_wp2
  go_ret
  exact ⟨rfl, hb⟩

end Go.Proofs.YthhpnepcfpapcaaDoor
