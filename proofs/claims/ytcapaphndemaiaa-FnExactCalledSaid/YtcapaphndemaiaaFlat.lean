/-
  Structs of plain numbers, opened and shut: any number of fields. (No number of the program's but that of int64.)
-/
import Derived.Test.YtcapaphndemaiaaBase
import Derived.Lib.SmallJoins
import Derived.DataShut
namespace Go.Proofs.Ytcapaphndemaiaa
open Go.ChangeShapes Go.WideShapes Go.ChangeAt Go.RowKit Go.Joins
set_option linter.unusedVariables false

/-- every field is a number, and lies in one cell -/
def flatF (I : TypeId) (fs : Array Field) : Bool := (List.range fs.size).all fun i => match fs[i]? with
  | some f => f.offset == i && f.type == I
  | none => false
theorem flatF_at {I : TypeId} {fs : Array Field} (h : flatF I fs = true) {i : Nat} {f : Field} (hf : fs[i]? = some f) : f.offset = i ∧ f.type = I := by
  have hi : i < fs.size := (Array.getElem?_eq_some_iff.1 hf).1
  have := List.all_eq_true.1 h i (List.mem_range.2 hi)
  rw [hf] at this
  simpa using this

abbrev numsV (zs : List Int) : List Value := zs.map fun z => .int .i64 z
abbrev numsD {H : Type} (zs : List Int) : List (DataW H) := zs.map fun z => .lit (.int .i64 z)

theorem flat_list {H : Type} {enc : TypeId × Value → H} {P : Program} {w : World} {base n : Nat} {sp : Nat → Bool} {hd : Bool} {I : TypeId} (hI : P.underlying I = some (.int .i64)) :
    ∀ (cs : List Value) (xs : List (DataW H × List MemPlace)), xs.length = cs.length → (∀ (i : Nat) (c : Value), cs[i]? = some c → DataW.trod enc P w base sp hd n I [c] = xs[i]?) →
      ∃ zs : List Int, cs = numsV zs ∧ xs = zs.map (fun z => (.lit (.int .i64 z), [])) ∧ ∀ z ∈ zs, (Lit.int .i64 z).wf = true
  | [], [], _, _ => ⟨[], rfl, rfl, fun _ h => by cases h⟩
  | [], _ :: _, h, _ => by simp at h
  | _ :: _, [], h, _ => by simp at h
  | c :: cs, x :: xs, h, hf => by
    obtain ⟨z, e1, e2, hw⟩ := DataW.trod_int hI (hf 0 c rfl)
    obtain ⟨zs, h1, h2, h3⟩ := flat_list hI cs xs (by simpa using h) (fun i d hd => by simpa using hf (i + 1) d (by simpa using hd))
    simp at e1
    refine ⟨z :: zs, by rw [e1, h1]; rfl, by rw [e2, h2]; rfl, fun y hy => ?_⟩
    rcases List.mem_cons.1 hy with rfl | hy
    · exact hw
    · exact h3 y hy

/-- such a struct's cells, opened -/
theorem trod_flat {H : Type} {enc : TypeId × Value → H} {P : Program} {w : World} {base fuel : Nat} {sp : Nat → Bool} {hd : Bool} {t I : TypeId} {fs : Array Field} {cs : List Value} {x : DataW H × List MemPlace}
    (ht : P.underlying t = some (.struct fs)) (hf : flatF I fs = true) (hI : P.underlying I = some (.int .i64)) (hc : P.cellsOf I = 1) (hC : P.cellsOf t = fs.size) (h : DataW.trod enc P w base sp hd fuel t cs = some x) :
    ∃ zs : List Int, zs.length = fs.size ∧ cs = numsV zs ∧ x = (.agg (numsD zs), []) ∧ ∀ z ∈ zs, (Lit.int .i64 z).wf = true := by
  obtain ⟨xs, n, _, rfl, hl, hlen, hx⟩ := DataW.trod_struct ht h
  obtain ⟨zs, h1, h2, h3⟩ := flat_list (enc := enc) (w := w) (base := base) (sp := sp) (hd := hd) (n := n) hI cs xs (by omega) (fun i c hc' => by
    have hi : i < cs.length := (List.getElem?_eq_some_iff.1 hc').1
    obtain ⟨f, hfi⟩ : ∃ f, fs[i]? = some f := ⟨fs[i]'(by omega), Array.getElem?_eq_getElem (by omega)⟩
    obtain ⟨e1, e2⟩ := flatF_at hf hfi
    have hq := hx i f hfi
    rw [e1, e2, hc] at hq
    rw [← hq]
    congr 1
    rw [List.drop_eq_getElem_cons hi]
    have := List.getElem?_eq_getElem hi
    rw [this] at hc'
    injection hc' with hc'
    simp [hc'])
  refine ⟨zs, by rw [h1] at hl; simpa [hC] using hl, h1, ?_, h3⟩
  rw [h2]
  simp [numsD, Function.comp_def]

/-- and shut -/
theorem trod_flat_mk {H : Type} {enc : TypeId × Value → H} {P : Program} {w : World} {base n : Nat} {sp : Nat → Bool} {hd : Bool} {t I : TypeId} {fs : Array Field} {zs : List Int}
    (ht : P.underlying t = some (.struct fs)) (hf : flatF I fs = true) (hI : P.underlying I = some (.int .i64)) (hc : P.cellsOf I = 1) (hC : P.cellsOf t = fs.size) (hl : zs.length = fs.size) (hw : ∀ z ∈ zs, (Lit.int .i64 z).wf = true) :
    DataW.trod enc P w base sp hd (n + 2) t (numsV zs) = some (.agg (numsD zs), []) := by
  have hm := trod_struct_mk (enc := enc) (w := w) (base := base) (spare := sp) (held := hd) (n := n + 1) (cs := numsV zs) (xs := zs.map (fun z => (.lit (.int .i64 z), []))) ht (by simp [hC, hl])
    (mapM_some_of_get _ _ (by simp [hl]) fun i f hfi => by
      have hfi : fs[i]? = some f := by simpa using hfi
      have hi : i < fs.size := (Array.getElem?_eq_some_iff.1 hfi).1
      obtain ⟨e1, e2⟩ := flatF_at hf hfi
      rw [e1, e2, hc]
      have hi2 : i < zs.length := by omega
      have hd1 : (List.drop i (numsV zs)).take 1 = [.int .i64 zs[i]] := by
        rw [List.drop_eq_getElem_cons (by simpa using hi2)]
        simp
      rw [hd1]
      rw [List.getElem?_map, List.getElem?_eq_getElem hi2]
      simp only [Option.map_some]
      have hz := hw zs[i] (List.getElem_mem hi2)
      unfold DataW.trod
      rw [hI]
      simp [hz])
  rw [hm]
  simp [numsD, Function.comp_def]

theorem open_flat {H : Type} {enc : TypeId × Value → H} {P : Program} {w : World} {b0 base : Nat} {sp : Nat → Bool} {hd : Bool} {r : Reach} {t I : TypeId} {fs : Array Field} {v : Value} {d : DataW H} {p : List MemPlace}
    (ht : P.underlying t = some (.struct fs)) (hf : flatF I fs = true) (hI : P.underlying I = some (.int .i64)) (hc : P.cellsOf I = 1) (hC : P.cellsOf t = fs.size)
    (hv : Value.okWide P w r b0 t v) (h : DataW.Trod enc P w base sp hd t v d p) :
    ∃ zs : List Int, zs.length = fs.size ∧ v = .agg (numsV zs).toArray ∧ d = .agg (numsD zs) ∧ p = [] ∧ ∀ z ∈ zs, (Lit.int .i64 z).wf = true := by
  obtain ⟨cs, rfl, hsz⟩ := okWide_struct ht hv
  obtain ⟨fuel, h⟩ := h
  obtain ⟨zs, h1, h2, h3, h4⟩ := trod_flat ht hf hI hc hC h
  simp only [Prod.mk.injEq] at h3
  refine ⟨zs, h1, ?_, h3.1, h3.2, h4⟩
  have : cs.toList = numsV zs := by simpa [Value.cells] using h2
  rw [← this]
theorem shut_flat {H : Type} {enc : TypeId × Value → H} {P : Program} {w : World} {base : Nat} {sp : Nat → Bool} {hd : Bool} {t I : TypeId} {fs : Array Field} {zs : List Int}
    (ht : P.underlying t = some (.struct fs)) (hf : flatF I fs = true) (hI : P.underlying I = some (.int .i64)) (hc : P.cellsOf I = 1) (hC : P.cellsOf t = fs.size) (hl : zs.length = fs.size) (hw : ∀ z ∈ zs, (Lit.int .i64 z).wf = true) :
    DataW.Trod enc P w base sp hd t (.agg (numsV zs).toArray) (.agg (numsD zs)) [] :=
  ⟨2, by simpa [Value.cells] using trod_flat_mk (n := 0) ht hf hI hc hC hl hw⟩
theorem eight {zs : List Int} (h : zs.length = 8) : ∃ a b c d e f g k, zs = [a, b, c, d, e, f, g, k] := by
  match zs, h with
  | [a, b, c, d, e, f, g, k], _ => exact ⟨a, b, c, d, e, f, g, k, rfl⟩

end Go.Proofs.Ytcapaphndemaiaa
