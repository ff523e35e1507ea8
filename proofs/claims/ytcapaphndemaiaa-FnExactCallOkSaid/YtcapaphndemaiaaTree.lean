/-
  Structs of numbers, flags and structs of numbers, opened and shut. (No number of the program's but those of int64 and bool.)
-/
import Derived.Test.YtcapaphndemaiaaFlat
namespace Go.Proofs.Ytcapaphndemaiaa
open Go.ChangeShapes Go.WideShapes Go.ChangeAt Go.RowKit Go.Joins
set_option linter.unusedVariables false

/-- what a field is: a number, a flag, a struct of numbers -/
inductive Kd where
  | num
  | flag
  | sub (t : TypeId) (m : Nat)
def Kd.size : Kd → Nat
  | .num => 1
  | .flag => 1
  | .sub _ m => m
def Kd.type (I Bo : TypeId) : Kd → TypeId
  | .num => I
  | .flag => Bo
  | .sub t _ => t
/-- what a field holds -/
inductive Fd where
  | num (z : Int)
  | flag (b : Bool)
  | sub (zs : List Int)
def Fd.vals : Fd → List Value
  | .num z => [.int .i64 z]
  | .flag b => [.bool b]
  | .sub zs => numsV zs
def Fd.dat {H : Type} : Fd → DataW H
  | .num z => .lit (.int .i64 z)
  | .flag b => .lit (.bool b)
  | .sub zs => .agg (numsD zs)
def Fd.ok : Kd → Fd → Prop
  | .num, .num z => (Lit.int .i64 z).wf = true
  | .flag, .flag _ => True
  | .sub _ m, .sub zs => zs.length = m ∧ ∀ z ∈ zs, (Lit.int .i64 z).wf = true
  | _, _ => False
def Fd.oks : List Kd → List Fd → Prop
  | [], [] => True
  | k :: ks, d :: ds => Fd.ok k d ∧ Fd.oks ks ds
  | _, _ => False
theorem Fd.oks_length : ∀ {ks : List Kd} {ds : List Fd}, Fd.oks ks ds → ds.length = ks.length
  | [], [], _ => rfl
  | _ :: _, _ :: _, h => by simpa using Fd.oks_length h.2
theorem Fd.ok_size {k : Kd} {d : Fd} (h : Fd.ok k d) : d.vals.length = k.size := by
  cases k <;> cases d <;> simp [Fd.ok, Fd.vals, Kd.size] at h ⊢
  exact h.1
def flatVals (ds : List Fd) : List Value := ds.flatMap Fd.vals
def total (ks : List Kd) : Nat := (ks.map Kd.size).sum
theorem Fd.oks_total : ∀ {ks : List Kd} {ds : List Fd}, Fd.oks ks ds → (flatVals ds).length = total ks
  | [], [], _ => rfl
  | k :: ks, d :: ds, h => by
    have h1 := Fd.ok_size h.1
    have h2 := Fd.oks_total h.2
    simp [flatVals, total] at h2 ⊢
    omega
/-- the fields are these, one behind the other -/
def treeF (P : Program) (I Bo : TypeId) : Nat → List Field → List Kd → Bool
  | _, [], [] => true
  | off, f :: fs, k :: ks => f.offset == off && (f.type == k.type I Bo && (P.cellsOf f.type == k.size && treeF P I Bo (off + k.size) fs ks))
  | _, _, _ => false
def subsOk (P : Program) (I : TypeId) (k : Kd) : Prop := match k with
  | .sub t m => ∃ fs : Array Field, P.underlying t = some (.struct fs) ∧ flatF I fs = true ∧ fs.size = m
  | _ => True
theorem treeF_cons {P : Program} {I Bo : TypeId} {off : Nat} {f : Field} {fs : List Field} {k : Kd} {ks : List Kd} (h : treeF P I Bo off (f :: fs) (k :: ks) = true) : f.offset = off ∧ f.type = k.type I Bo ∧ P.cellsOf f.type = k.size ∧ treeF P I Bo (off + k.size) fs ks = true := by
  simpa [treeF] using h

theorem tree_one {H : Type} {enc : TypeId × Value → H} {P : Program} {w : World} {base n : Nat} {sp : Nat → Bool} {hd : Bool} {I Bo : TypeId} {k : Kd} {cs : List Value} {x : DataW H × List MemPlace} (hI : P.underlying I = some (.int .i64)) (hB : P.underlying Bo = some .bool) (hc : P.cellsOf I = 1)
    (hs : subsOk P I k) (hk : P.cellsOf (k.type I Bo) = k.size) (h : DataW.trod enc P w base sp hd n (k.type I Bo) cs = some x) : ∃ d : Fd, Fd.ok k d ∧ cs = d.vals ∧ x = (d.dat, []) := by
  cases k with
  | num =>
    obtain ⟨z, e1, e2, hw⟩ := DataW.trod_int hI h
    exact ⟨.num z, hw, e1, e2⟩
  | flag =>
    obtain ⟨b, e1, e2⟩ := DataW.trod_bool hB h
    exact ⟨.flag b, trivial, e1, e2⟩
  | sub t m =>
    obtain ⟨fs, h1, h2, h3⟩ := hs
    obtain ⟨zs, e1, e2, e3, hw⟩ := trod_flat h1 h2 hI hc ((show P.cellsOf t = m from hk).trans h3.symm) h
    exact ⟨.sub zs, ⟨by omega, hw⟩, e2, e3⟩

theorem tree_list {H : Type} {enc : TypeId × Value → H} {P : Program} {w : World} {base n : Nat} {sp : Nat → Bool} {hd : Bool} {I Bo : TypeId} (hI : P.underlying I = some (.int .i64)) (hB : P.underlying Bo = some .bool) (hc : P.cellsOf I = 1) (CS : List Value) :
    ∀ (ks : List Kd) (fs : List Field) (off : Nat) (xs : List (DataW H × List MemPlace)), (∀ k ∈ ks, subsOk P I k) → treeF P I Bo off fs ks = true → CS.length = off + total ks → xs.length = fs.length →
      (∀ (i : Nat) (f : Field), fs[i]? = some f → DataW.trod enc P w base sp hd n f.type ((CS.drop f.offset).take (P.cellsOf f.type)) = xs[i]?) →
      ∃ ds : List Fd, Fd.oks ks ds ∧ CS.drop off = flatVals ds ∧ xs = ds.map (fun d => (d.dat, []))
  | [], [], off, [], _, _, hl, _, _ => ⟨[], trivial, by rw [List.drop_eq_nil_of_le (by simp [total] at hl; omega)]; rfl, rfl⟩
  | [], [], _, _ :: _, _, _, _, hl, _ => by simp at hl
  | [], _ :: _, _, _, _, h, _, _, _ => by simp [treeF] at h
  | _ :: _, [], _, _, _, h, _, _, _ => by simp [treeF] at h
  | _ :: _, _ :: _, _, [], _, _, _, hl, _ => by simp at hl
  | k :: ks, f :: fs, off, x :: xs, hs, h, hl, hlx, hf => by
    obtain ⟨e1, e2, e3, e4⟩ := treeF_cons h
    have h0 := hf 0 f rfl
    rw [e1, e3, e2] at h0
    obtain ⟨d, hd1, hd2, hd3⟩ := tree_one hI hB hc (hs k (by simp)) (by rw [← e2]; exact e3) h0
    obtain ⟨ds, i1, i2, i3⟩ := tree_list hI hB hc CS ks fs (off + k.size) xs (fun q hq => hs q (by simp [hq])) e4 (by simp [total] at hl ⊢; omega) (by simpa using hlx) (fun i g hg => hf (i + 1) g (by simpa using hg))
    refine ⟨d :: ds, ⟨hd1, i1⟩, ?_, by rw [i3, hd3]; rfl⟩
    have : CS.drop off = (CS.drop off).take k.size ++ (CS.drop off).drop k.size := (List.take_append_drop _ _).symm
    rw [this, hd2, List.drop_drop, i2]
    rfl

theorem open_tree {H : Type} {enc : TypeId × Value → H} {P : Program} {w : World} {b0 base : Nat} {sp : Nat → Bool} {hd : Bool} {r : Reach} {t I Bo : TypeId} {fs : Array Field} {ks : List Kd} {v : Value} {d : DataW H} {p : List MemPlace}
    (ht : P.underlying t = some (.struct fs)) (hI : P.underlying I = some (.int .i64)) (hB : P.underlying Bo = some .bool) (hc : P.cellsOf I = 1) (hs : ∀ k ∈ ks, subsOk P I k) (hf : treeF P I Bo 0 fs.toList ks = true) (hC : P.cellsOf t = total ks)
    (hv : Value.okWide P w r b0 t v) (h : DataW.Trod enc P w base sp hd t v d p) :
    ∃ ds : List Fd, Fd.oks ks ds ∧ v = .agg (flatVals ds).toArray ∧ d = .agg (ds.map Fd.dat) ∧ p = [] := by
  obtain ⟨cs, rfl, hsz⟩ := okWide_struct ht hv
  obtain ⟨fuel, h⟩ := h
  obtain ⟨xs, n, _, hx, hl, hlen, hfs⟩ := DataW.trod_struct ht h
  have hl' : cs.toList.length = total ks := by rw [Array.length_toList, hsz, hC]
  obtain ⟨ds, h1, h2, h3⟩ := tree_list (enc := enc) (w := w) (base := base) (sp := sp) (hd := hd) (n := n) hI hB hc cs.toList ks fs.toList 0 xs hs hf (by omega) (by simpa using hlen) (fun i f hfi => by
    have := hfs i f (by simpa using hfi)
    simpa [Value.cells] using this)
  simp only [Prod.mk.injEq] at hx
  refine ⟨ds, h1, ?_, ?_, ?_⟩
  · rw [List.drop_zero] at h2; rw [← h2]
  · rw [hx.1, h3]; simp [Function.comp_def]
  · rw [hx.2, h3]; simp

theorem tree_one_mk {H : Type} {enc : TypeId × Value → H} {P : Program} {w : World} {base n : Nat} {sp : Nat → Bool} {hd : Bool} {I Bo : TypeId} {k : Kd} {d : Fd} (hI : P.underlying I = some (.int .i64)) (hB : P.underlying Bo = some .bool) (hc : P.cellsOf I = 1)
    (hs : subsOk P I k) (hk : P.cellsOf (k.type I Bo) = k.size) (h : Fd.ok k d) : DataW.trod enc P w base sp hd (n + 2) (k.type I Bo) d.vals = some (d.dat, []) := by
  cases k <;> cases d <;> simp only [Fd.ok] at h
  case num.num z =>
    unfold DataW.trod
    simp only [Kd.type, hI, Fd.vals, Fd.dat]
    simp [h]
  case flag.flag b =>
    unfold DataW.trod
    simp only [Kd.type, hB, Fd.vals, Fd.dat]
  case sub.sub t m zs =>
    obtain ⟨fs, h1, h2, h3⟩ := hs
    exact trod_flat_mk (n := n) h1 h2 hI hc ((show P.cellsOf t = m from hk).trans h3.symm) (by omega) h.2

theorem tree_list_mk {H : Type} {enc : TypeId × Value → H} {P : Program} {w : World} {base n : Nat} {sp : Nat → Bool} {hd : Bool} {I Bo : TypeId} (hI : P.underlying I = some (.int .i64)) (hB : P.underlying Bo = some .bool) (hc : P.cellsOf I = 1) (CS : List Value) :
    ∀ (ks : List Kd) (ds : List Fd) (fs : List Field) (off : Nat), (∀ k ∈ ks, subsOk P I k) → treeF P I Bo off fs ks = true → Fd.oks ks ds → CS.drop off = flatVals ds →
      fs.mapM (fun f => DataW.trod enc P w base sp hd (n + 2) f.type ((CS.drop f.offset).take (P.cellsOf f.type))) = some (ds.map (fun d => (d.dat, [])))
  | [], [], [], _, _, _, _, _ => by simp
  | [], _ :: _, _, _, _, _, h, _ => by simp [Fd.oks] at h
  | _ :: _, [], _, _, _, _, h, _ => by simp [Fd.oks] at h
  | [], [], _ :: _, _, _, h, _, _ => by simp [treeF] at h
  | _ :: _, _ :: _, [], _, _, h, _, _ => by simp [treeF] at h
  | k :: ks, d :: ds, f :: fs, off, hs, h, ho, hcs => by
    obtain ⟨e1, e2, e3, e4⟩ := treeF_cons h
    have hz := Fd.ok_size ho.1
    have hcs2 : CS.drop off = d.vals ++ flatVals ds := hcs
    have h1 : (CS.drop off).take k.size = d.vals := by rw [hcs2, ← hz]; simp
    have h2 : CS.drop (off + k.size) = flatVals ds := by rw [← List.drop_drop, hcs2, ← hz]; simp
    rw [List.mapM_cons, tree_list_mk hI hB hc CS ks ds fs (off + k.size) (fun q hq => hs q (by simp [hq])) e4 ho.2 h2, e1, e3, e2, h1, tree_one_mk hI hB hc (hs k (by simp)) (by rw [← e2]; exact e3) ho.1]
    simp

theorem no_places {H : Type} (ds : List Fd) : (ds.map (fun d => ((d.dat : DataW H), ([] : List MemPlace)))).flatMap (·.2) = [] := by
  induction ds with
  | nil => rfl
  | cons d ds ih => simp

theorem shut_tree {H : Type} {enc : TypeId × Value → H} {P : Program} {w : World} {base : Nat} {sp : Nat → Bool} {hd : Bool} {t I Bo : TypeId} {fs : Array Field} {ks : List Kd} {ds : List Fd}
    (ht : P.underlying t = some (.struct fs)) (hI : P.underlying I = some (.int .i64)) (hB : P.underlying Bo = some .bool) (hc : P.cellsOf I = 1) (hs : ∀ k ∈ ks, subsOk P I k) (hf : treeF P I Bo 0 fs.toList ks = true) (hC : P.cellsOf t = total ks) (ho : Fd.oks ks ds) :
    DataW.Trod enc P w base sp hd t (.agg (flatVals ds).toArray) (.agg (ds.map Fd.dat)) [] := by
  refine ⟨3, ?_⟩
  have hm := trod_struct_mk (enc := enc) (w := w) (base := base) (spare := sp) (held := hd) (n := 2) (cs := flatVals ds) (xs := ds.map (fun d => (d.dat, []))) ht (by rw [Fd.oks_total ho, hC])
    (tree_list_mk hI hB hc (flatVals ds) ks ds fs.toList 0 hs hf ho (by simp))
  rw [no_places] at hm
  simpa [Value.cells, Function.comp_def] using hm

end Go.Proofs.Ytcapaphndemaiaa
