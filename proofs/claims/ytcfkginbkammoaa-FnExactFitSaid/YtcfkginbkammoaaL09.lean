/-
  Structs of numbers, flags and structs of numbers, opened and shut. (No number of the program's but those of int64 and bool.)
-/
import Derived.Test.YtcfkginbkammoaaL04
import Derived.Test.YtcfkginbkammoaaL08
import Derived.Test.YtcfkginbkammoaaL02
import Derived.Maps.AppendAt
import Derived.Laws.AppendOwn
import Derived.Test.YtcfkginbkammoaaL00
import Derived.Test.YtcfkginbkammoaaL06
import Derived.Deep.MidRow
import Derived.OpenShut
import Derived.ChangeOld
import Derived.Deep.SlicePairs
namespace Go.Proofs.Ytcfkginbkammoaa
open Go.ChangeShapes Go.WideShapes Go.ChangeAt Go.RowKit Go.Joins
set_option linter.unusedVariables false

/-- what a field is: a number, a flag, a struct of numbers -/
inductive Kd where
  | num
  | flag
  | sub (t : TypeId) (m : Nat)
def Kd.size : Kd → Nat
  | .num => 1
  | .flag => 1
  | .sub _ m => m
def Kd.type (I Bo : TypeId) : Kd → TypeId
  | .num => I
  | .flag => Bo
  | .sub t _ => t
/-- what a field holds -/
inductive Fd where
  | num (z : Int)
  | flag (b : Bool)
  | sub (zs : List Int)
def Fd.vals : Fd → List Value
  | .num z => [.int .i64 z]
  | .flag b => [.bool b]
  | .sub zs => numsV zs
def Fd.dat {H : Type} : Fd → DataW H
  | .num z => .lit (.int .i64 z)
  | .flag b => .lit (.bool b)
  | .sub zs => .agg (numsD zs)
def Fd.ok : Kd → Fd → Prop
  | .num, .num z => (Lit.int .i64 z).wf = true
  | .flag, .flag _ => True
  | .sub _ m, .sub zs => zs.length = m ∧ ∀ z ∈ zs, (Lit.int .i64 z).wf = true
  | _, _ => False
def Fd.oks : List Kd → List Fd → Prop
  | [], [] => True
  | k :: ks, d :: ds => Fd.ok k d ∧ Fd.oks ks ds
  | _, _ => False
theorem Fd.oks_length : ∀ {ks : List Kd} {ds : List Fd}, Fd.oks ks ds → ds.length = ks.length
  | [], [], _ => rfl
  | _ :: _, _ :: _, h => by simpa using Fd.oks_length h.2
theorem Fd.ok_size {k : Kd} {d : Fd} (h : Fd.ok k d) : d.vals.length = k.size := by
  cases k <;> cases d <;> simp [Fd.ok, Fd.vals, Kd.size] at h ⊢
  exact h.1
def flatVals (ds : List Fd) : List Value := ds.flatMap Fd.vals
def total (ks : List Kd) : Nat := (ks.map Kd.size).sum
theorem Fd.oks_total : ∀ {ks : List Kd} {ds : List Fd}, Fd.oks ks ds → (flatVals ds).length = total ks
  | [], [], _ => rfl
  | k :: ks, d :: ds, h => by
    have h1 := Fd.ok_size h.1
    have h2 := Fd.oks_total h.2
    simp [flatVals, total] at h2 ⊢
    omega
/-- the fields are these, one behind the other -/
def treeF (P : Program) (I Bo : TypeId) : Nat → List Field → List Kd → Bool
  | _, [], [] => true
  | off, f :: fs, k :: ks => f.offset == off && (f.type == k.type I Bo && (P.cellsOf f.type == k.size && treeF P I Bo (off + k.size) fs ks))
  | _, _, _ => false
def subsOk (P : Program) (I : TypeId) (k : Kd) : Prop := match k with
  | .sub t m => ∃ fs : Array Field, P.underlying t = some (.struct fs) ∧ flatF I fs = true ∧ fs.size = m
  | _ => True
theorem treeF_cons {P : Program} {I Bo : TypeId} {off : Nat} {f : Field} {fs : List Field} {k : Kd} {ks : List Kd} (h : treeF P I Bo off (f :: fs) (k :: ks) = true) : f.offset = off ∧ f.type = k.type I Bo ∧ P.cellsOf f.type = k.size ∧ treeF P I Bo (off + k.size) fs ks = true := by
  simpa [treeF] using h

theorem tree_one {H : Type} {enc : TypeId × Value → H} {P : Program} {w : World} {base n : Nat} {sp : Nat → Bool} {hd : Bool} {I Bo : TypeId} {k : Kd} {cs : List Value} {x : DataW H × List MemPlace} (hI : P.underlying I = some (.int .i64)) (hB : P.underlying Bo = some .bool) (hc : P.cellsOf I = 1)
    (hs : subsOk P I k) (hk : P.cellsOf (k.type I Bo) = k.size) (h : DataW.trod enc P w base sp hd n (k.type I Bo) cs = some x) : ∃ d : Fd, Fd.ok k d ∧ cs = d.vals ∧ x = (d.dat, []) := by
  cases k with
  | num =>
    obtain ⟨z, e1, e2, hw⟩ := DataW.trod_int hI h
    exact ⟨.num z, hw, e1, e2⟩
  | flag =>
    obtain ⟨b, e1, e2⟩ := DataW.trod_bool hB h
    exact ⟨.flag b, trivial, e1, e2⟩
  | sub t m =>
    obtain ⟨fs, h1, h2, h3⟩ := hs
    obtain ⟨zs, e1, e2, e3, hw⟩ := trod_flat h1 h2 hI hc ((show P.cellsOf t = m from hk).trans h3.symm) h
    exact ⟨.sub zs, ⟨by omega, hw⟩, e2, e3⟩

theorem tree_list {H : Type} {enc : TypeId × Value → H} {P : Program} {w : World} {base n : Nat} {sp : Nat → Bool} {hd : Bool} {I Bo : TypeId} (hI : P.underlying I = some (.int .i64)) (hB : P.underlying Bo = some .bool) (hc : P.cellsOf I = 1) (CS : List Value) :
    ∀ (ks : List Kd) (fs : List Field) (off : Nat) (xs : List (DataW H × List MemPlace)), (∀ k ∈ ks, subsOk P I k) → treeF P I Bo off fs ks = true → CS.length = off + total ks → xs.length = fs.length →
      (∀ (i : Nat) (f : Field), fs[i]? = some f → DataW.trod enc P w base sp hd n f.type ((CS.drop f.offset).take (P.cellsOf f.type)) = xs[i]?) →
      ∃ ds : List Fd, Fd.oks ks ds ∧ CS.drop off = flatVals ds ∧ xs = ds.map (fun d => (d.dat, []))
  | [], [], off, [], _, _, hl, _, _ => ⟨[], trivial, by rw [List.drop_eq_nil_of_le (by simp [total] at hl; omega)]; rfl, rfl⟩
  | [], [], _, _ :: _, _, _, _, hl, _ => by simp at hl
  | [], _ :: _, _, _, _, h, _, _, _ => by simp [treeF] at h
  | _ :: _, [], _, _, _, h, _, _, _ => by simp [treeF] at h
  | _ :: _, _ :: _, _, [], _, _, _, hl, _ => by simp at hl
  | k :: ks, f :: fs, off, x :: xs, hs, h, hl, hlx, hf => by
    obtain ⟨e1, e2, e3, e4⟩ := treeF_cons h
    have h0 := hf 0 f rfl
    rw [e1, e3, e2] at h0
    obtain ⟨d, hd1, hd2, hd3⟩ := tree_one hI hB hc (hs k (by simp)) (by rw [← e2]; exact e3) h0
    obtain ⟨ds, i1, i2, i3⟩ := tree_list hI hB hc CS ks fs (off + k.size) xs (fun q hq => hs q (by simp [hq])) e4 (by simp [total] at hl ⊢; omega) (by simpa using hlx) (fun i g hg => hf (i + 1) g (by simpa using hg))
    refine ⟨d :: ds, ⟨hd1, i1⟩, ?_, by rw [i3, hd3]; rfl⟩
    have : CS.drop off = (CS.drop off).take k.size ++ (CS.drop off).drop k.size := (List.take_append_drop _ _).symm
    rw [this, hd2, List.drop_drop, i2]
    rfl

theorem open_tree {H : Type} {enc : TypeId × Value → H} {P : Program} {w : World} {b0 base : Nat} {sp : Nat → Bool} {hd : Bool} {r : Reach} {t I Bo : TypeId} {fs : Array Field} {ks : List Kd} {v : Value} {d : DataW H} {p : List MemPlace}
    (ht : P.underlying t = some (.struct fs)) (hI : P.underlying I = some (.int .i64)) (hB : P.underlying Bo = some .bool) (hc : P.cellsOf I = 1) (hs : ∀ k ∈ ks, subsOk P I k) (hf : treeF P I Bo 0 fs.toList ks = true) (hC : P.cellsOf t = total ks)
    (hv : Value.okWide P w r b0 t v) (h : DataW.Trod enc P w base sp hd t v d p) :
    ∃ ds : List Fd, Fd.oks ks ds ∧ v = .agg (flatVals ds).toArray ∧ d = .agg (ds.map Fd.dat) ∧ p = [] := by
  obtain ⟨cs, rfl, hsz⟩ := okWide_struct ht hv
  obtain ⟨fuel, h⟩ := h
  obtain ⟨xs, n, _, hx, hl, hlen, hfs⟩ := DataW.trod_struct ht h
  have hl' : cs.toList.length = total ks := by rw [Array.length_toList, hsz, hC]
  obtain ⟨ds, h1, h2, h3⟩ := tree_list (enc := enc) (w := w) (base := base) (sp := sp) (hd := hd) (n := n) hI hB hc cs.toList ks fs.toList 0 xs hs hf (by omega) (by simpa using hlen) (fun i f hfi => by
    have := hfs i f (by simpa using hfi)
    simpa [Value.cells] using this)
  simp only [Prod.mk.injEq] at hx
  refine ⟨ds, h1, ?_, ?_, ?_⟩
  · rw [List.drop_zero] at h2; rw [← h2]
  · rw [hx.1, h3]; simp [Function.comp_def]
  · rw [hx.2, h3]; simp

theorem tree_one_mk {H : Type} {enc : TypeId × Value → H} {P : Program} {w : World} {base n : Nat} {sp : Nat → Bool} {hd : Bool} {I Bo : TypeId} {k : Kd} {d : Fd} (hI : P.underlying I = some (.int .i64)) (hB : P.underlying Bo = some .bool) (hc : P.cellsOf I = 1)
    (hs : subsOk P I k) (hk : P.cellsOf (k.type I Bo) = k.size) (h : Fd.ok k d) : DataW.trod enc P w base sp hd (n + 2) (k.type I Bo) d.vals = some (d.dat, []) := by
  cases k <;> cases d <;> simp only [Fd.ok] at h
  case num.num z =>
    unfold DataW.trod
    simp only [Kd.type, hI, Fd.vals, Fd.dat]
    simp [h]
  case flag.flag b =>
    unfold DataW.trod
    simp only [Kd.type, hB, Fd.vals, Fd.dat]
  case sub.sub t m zs =>
    obtain ⟨fs, h1, h2, h3⟩ := hs
    exact trod_flat_mk (n := n) h1 h2 hI hc ((show P.cellsOf t = m from hk).trans h3.symm) (by omega) h.2

theorem tree_list_mk {H : Type} {enc : TypeId × Value → H} {P : Program} {w : World} {base n : Nat} {sp : Nat → Bool} {hd : Bool} {I Bo : TypeId} (hI : P.underlying I = some (.int .i64)) (hB : P.underlying Bo = some .bool) (hc : P.cellsOf I = 1) (CS : List Value) :
    ∀ (ks : List Kd) (ds : List Fd) (fs : List Field) (off : Nat), (∀ k ∈ ks, subsOk P I k) → treeF P I Bo off fs ks = true → Fd.oks ks ds → CS.drop off = flatVals ds →
      fs.mapM (fun f => DataW.trod enc P w base sp hd (n + 2) f.type ((CS.drop f.offset).take (P.cellsOf f.type))) = some (ds.map (fun d => (d.dat, [])))
  | [], [], [], _, _, _, _, _ => by simp
  | [], _ :: _, _, _, _, _, h, _ => by simp [Fd.oks] at h
  | _ :: _, [], _, _, _, _, h, _ => by simp [Fd.oks] at h
  | [], [], _ :: _, _, _, h, _, _ => by simp [treeF] at h
  | _ :: _, _ :: _, [], _, _, h, _, _ => by simp [treeF] at h
  | k :: ks, d :: ds, f :: fs, off, hs, h, ho, hcs => by
    obtain ⟨e1, e2, e3, e4⟩ := treeF_cons h
    have hz := Fd.ok_size ho.1
    have hcs2 : CS.drop off = d.vals ++ flatVals ds := hcs
    have h1 : (CS.drop off).take k.size = d.vals := by rw [hcs2, ← hz]; simp
    have h2 : CS.drop (off + k.size) = flatVals ds := by rw [← List.drop_drop, hcs2, ← hz]; simp
    rw [List.mapM_cons, tree_list_mk hI hB hc CS ks ds fs (off + k.size) (fun q hq => hs q (by simp [hq])) e4 ho.2 h2, e1, e3, e2, h1, tree_one_mk hI hB hc (hs k (by simp)) (by rw [← e2]; exact e3) ho.1]
    simp

theorem no_places {H : Type} (ds : List Fd) : (ds.map (fun d => ((d.dat : DataW H), ([] : List MemPlace)))).flatMap (·.2) = [] := by
  induction ds with
  | nil => rfl
  | cons d ds ih => simp

theorem shut_tree {H : Type} {enc : TypeId × Value → H} {P : Program} {w : World} {base : Nat} {sp : Nat → Bool} {hd : Bool} {t I Bo : TypeId} {fs : Array Field} {ks : List Kd} {ds : List Fd}
    (ht : P.underlying t = some (.struct fs)) (hI : P.underlying I = some (.int .i64)) (hB : P.underlying Bo = some .bool) (hc : P.cellsOf I = 1) (hs : ∀ k ∈ ks, subsOk P I k) (hf : treeF P I Bo 0 fs.toList ks = true) (hC : P.cellsOf t = total ks) (ho : Fd.oks ks ds) :
    DataW.Trod enc P w base sp hd t (.agg (flatVals ds).toArray) (.agg (ds.map Fd.dat)) [] := by
  refine ⟨3, ?_⟩
  have hm := trod_struct_mk (enc := enc) (w := w) (base := base) (spare := sp) (held := hd) (n := 2) (cs := flatVals ds) (xs := ds.map (fun d => (d.dat, []))) ht (by rw [Fd.oks_total ho, hC])
    (tree_list_mk hI hB hc (flatVals ds) ks ds fs.toList 0 hs hf ho (by simp))
  rw [no_places] at hm
  simpa [Value.cells, Function.comp_def] using hm

end Go.Proofs.Ytcfkginbkammoaa

/-
  Calls and hands of a law: made, compared, opened and shut.
-/
namespace Go.Proofs.Ytcfkginbkammoaa
open Go.ChangeShapes Go.WideShapes Go.ChangeAt Go.RowKit Go.Joins
set_option linter.unusedVariables false

set_option maxRecDepth 100000 in
set_option maxHeartbeats 400000 in
theorem toCall_any (q : Ca) (w : World) :
    Calls Try.prog 19 #[caV q] w fun e w' => e = .returned (caV q) ∧ Below w.heap.size w w' := by
  go_enter Try.func19, Try.ntmps19
  go_wp2
  exact bodyPost_ret (v := caV q) (by simp [results, Try.results19, go_sem]) rfl ⟨rfl, (((Below.refl _ _).alloc (Nat.le_refl _) _).alloc (by simp) _).alloc (by simp; omega) _⟩
set_option maxRecDepth 100000 in
set_option maxHeartbeats 4000000 in
theorem toHand_any (h : Hd) (w : World) :
    Calls Try.prog 8 #[hdV h] w fun e w' => e = .returned (hdV h) ∧ Below w.heap.size w w' := by
  have k0 := (((Below.refl w.heap.size w).alloc (Nat.le_refl _) (.cells (hdCells h) 31)).alloc (by simp) (.cells #[.int .i64 0, .int .i64 0, .int .i64 0, .int .i64 0, .int .i64 0, .int .i64 0, .int .i64 0, .bool false, .int .i64 0, .int .i64 0, .int .i64 0, .int .i64 0] 43)).alloc (by simp; omega) (.cells #[.int .i64 h.pos, .int .i64 0, .int .i64 0, .int .i64 0, .int .i64 0, .int .i64 0, .int .i64 0, .bool false, .int .i64 0, .int .i64 0, .int .i64 0, .int .i64 0] 43)
  have kk := Below.refl (((w.alloc (.cells (hdCells h) 31)).alloc (.cells #[.int .i64 0, .int .i64 0, .int .i64 0, .int .i64 0, .int .i64 0, .int .i64 0, .int .i64 0, .bool false, .int .i64 0, .int .i64 0, .int .i64 0, .int .i64 0] 43)).alloc (.cells #[.int .i64 h.pos, .int .i64 0, .int .i64 0, .int .i64 0, .int .i64 0, .int .i64 0, .int .i64 0, .bool false, .int .i64 0, .int .i64 0, .int .i64 0, .int .i64 0] 43)).heap.size (((w.alloc (.cells (hdCells h) 31)).alloc (.cells #[.int .i64 0, .int .i64 0, .int .i64 0, .int .i64 0, .int .i64 0, .int .i64 0, .int .i64 0, .bool false, .int .i64 0, .int .i64 0, .int .i64 0, .int .i64 0] 43)).alloc (.cells #[.int .i64 h.pos, .int .i64 0, .int .i64 0, .int .i64 0, .int .i64 0, .int .i64 0, .int .i64 0, .bool false, .int .i64 0, .int .i64 0, .int .i64 0, .int .i64 0] 43))
  have p0 := alloc_block (.cells #[.int .i64 h.pos, .int .i64 0, .int .i64 0, .int .i64 0, .int .i64 0, .int .i64 0, .int .i64 0, .bool false, .int .i64 0, .int .i64 0, .int .i64 0, .int .i64 0] 43) (alloc_block (.cells #[.int .i64 0, .int .i64 0, .int .i64 0, .int .i64 0, .int .i64 0, .int .i64 0, .int .i64 0, .bool false, .int .i64 0, .int .i64 0, .int .i64 0, .int .i64 0] 43) (heap_alloc_new w (.cells (hdCells h) 31)))
  have p1 := alloc_block (.cells #[.int .i64 h.pos, .int .i64 0, .int .i64 0, .int .i64 0, .int .i64 0, .int .i64 0, .int .i64 0, .bool false, .int .i64 0, .int .i64 0, .int .i64 0, .int .i64 0] 43) (heap_alloc_new (w.alloc (.cells (hdCells h) 31)) (.cells #[.int .i64 0, .int .i64 0, .int .i64 0, .int .i64 0, .int .i64 0, .int .i64 0, .int .i64 0, .bool false, .int .i64 0, .int .i64 0, .int .i64 0, .int .i64 0] 43))
  have p2 := heap_alloc_new ((w.alloc (.cells (hdCells h) 31)).alloc (.cells #[.int .i64 0, .int .i64 0, .int .i64 0, .int .i64 0, .int .i64 0, .int .i64 0, .int .i64 0, .bool false, .int .i64 0, .int .i64 0, .int .i64 0, .int .i64 0] 43)) (.cells #[.int .i64 h.pos, .int .i64 0, .int .i64 0, .int .i64 0, .int .i64 0, .int .i64 0, .int .i64 0, .bool false, .int .i64 0, .int .i64 0, .int .i64 0, .int .i64 0] 43)
  rw [show (w.alloc (.cells (hdCells h) 31)).heap.size = w.heap.size + 1 by simp] at p1
  rw [show ((w.alloc (.cells (hdCells h) 31)).alloc (.cells #[.int .i64 0, .int .i64 0, .int .i64 0, .int .i64 0, .int .i64 0, .int .i64 0, .int .i64 0, .bool false, .int .i64 0, .int .i64 0, .int .i64 0, .int .i64 0] 43)).heap.size = w.heap.size + 1 + 1 by simp] at p2
  go_enter Try.func8, Try.ntmps8
  go_wp2_with fail
  go_at_call 19; refine (toCall_any _ _).mono ?_; rintro e w1 ⟨rfl, hb⟩; replace kk := kk.trans (hb.mono kk.size); clear hb
  replace p0 := b_block kk p0 (by simp <;> omega)
  replace p1 := b_block kk p1 (by simp <;> omega)
  replace p2 := b_block kk p2 (by simp <;> omega)
  have kw := k0.trans (kk.mono k0.size)
  clear kk k0
  have c0_0 : w1.cell? ⟨w.heap.size, 0, none⟩ = some (.int .i64 h.pos) := cell_of_block p0 0
  have c1_0 : w1.cell? ⟨w.heap.size + 1, 0, none⟩ = some (.int .i64 0) := cell_of_block p1 0
  have f1_0 : w1.frozen? ⟨w.heap.size + 1, 0, none⟩ = false := unfrozen_of_block p1 0
  have c2_0 : w1.cell? ⟨w.heap.size + 1 + 1, 0, none⟩ = some (.int .i64 h.pos) := cell_of_block p2 0
  have f2_0 : w1.frozen? ⟨w.heap.size + 1 + 1, 0, none⟩ = false := unfrozen_of_block p2 0
  have c0_1 : w1.cell? ⟨w.heap.size, 1, none⟩ = some (.int .i64 h.call.code) := cell_of_block p0 1
  have c1_1 : w1.cell? ⟨w.heap.size + 1, 1, none⟩ = some (.int .i64 0) := cell_of_block p1 1
  have f1_1 : w1.frozen? ⟨w.heap.size + 1, 1, none⟩ = false := unfrozen_of_block p1 1
  have c2_1 : w1.cell? ⟨w.heap.size + 1 + 1, 1, none⟩ = some (.int .i64 0) := cell_of_block p2 1
  have f2_1 : w1.frozen? ⟨w.heap.size + 1 + 1, 1, none⟩ = false := unfrozen_of_block p2 1
  have c0_2 : w1.cell? ⟨w.heap.size, 2, none⟩ = some (.int .i64 h.call.a) := cell_of_block p0 2
  have c1_2 : w1.cell? ⟨w.heap.size + 1, 2, none⟩ = some (.int .i64 0) := cell_of_block p1 2
  have f1_2 : w1.frozen? ⟨w.heap.size + 1, 2, none⟩ = false := unfrozen_of_block p1 2
  have c2_2 : w1.cell? ⟨w.heap.size + 1 + 1, 2, none⟩ = some (.int .i64 0) := cell_of_block p2 2
  have f2_2 : w1.frozen? ⟨w.heap.size + 1 + 1, 2, none⟩ = false := unfrozen_of_block p2 2
  have c0_3 : w1.cell? ⟨w.heap.size, 3, none⟩ = some (.int .i64 h.call.b) := cell_of_block p0 3
  have c1_3 : w1.cell? ⟨w.heap.size + 1, 3, none⟩ = some (.int .i64 0) := cell_of_block p1 3
  have f1_3 : w1.frozen? ⟨w.heap.size + 1, 3, none⟩ = false := unfrozen_of_block p1 3
  have c2_3 : w1.cell? ⟨w.heap.size + 1 + 1, 3, none⟩ = some (.int .i64 0) := cell_of_block p2 3
  have f2_3 : w1.frozen? ⟨w.heap.size + 1 + 1, 3, none⟩ = false := unfrozen_of_block p2 3
  have c0_4 : w1.cell? ⟨w.heap.size, 4, none⟩ = some (.int .i64 h.call.c) := cell_of_block p0 4
  have c1_4 : w1.cell? ⟨w.heap.size + 1, 4, none⟩ = some (.int .i64 0) := cell_of_block p1 4
  have f1_4 : w1.frozen? ⟨w.heap.size + 1, 4, none⟩ = false := unfrozen_of_block p1 4
  have c2_4 : w1.cell? ⟨w.heap.size + 1 + 1, 4, none⟩ = some (.int .i64 0) := cell_of_block p2 4
  have f2_4 : w1.frozen? ⟨w.heap.size + 1 + 1, 4, none⟩ = false := unfrozen_of_block p2 4
  have c0_5 : w1.cell? ⟨w.heap.size, 5, none⟩ = some (.int .i64 h.tim) := cell_of_block p0 5
  have c1_5 : w1.cell? ⟨w.heap.size + 1, 5, none⟩ = some (.int .i64 0) := cell_of_block p1 5
  have f1_5 : w1.frozen? ⟨w.heap.size + 1, 5, none⟩ = false := unfrozen_of_block p1 5
  have c2_5 : w1.cell? ⟨w.heap.size + 1 + 1, 5, none⟩ = some (.int .i64 0) := cell_of_block p2 5
  have f2_5 : w1.frozen? ⟨w.heap.size + 1 + 1, 5, none⟩ = false := unfrozen_of_block p2 5
  have c0_6 : w1.cell? ⟨w.heap.size, 6, none⟩ = some (.int .i64 h.whe) := cell_of_block p0 6
  have c1_6 : w1.cell? ⟨w.heap.size + 1, 6, none⟩ = some (.int .i64 0) := cell_of_block p1 6
  have f1_6 : w1.frozen? ⟨w.heap.size + 1, 6, none⟩ = false := unfrozen_of_block p1 6
  have c2_6 : w1.cell? ⟨w.heap.size + 1 + 1, 6, none⟩ = some (.int .i64 0) := cell_of_block p2 6
  have f2_6 : w1.frozen? ⟨w.heap.size + 1 + 1, 6, none⟩ = false := unfrozen_of_block p2 6
  have c0_7 : w1.cell? ⟨w.heap.size, 7, none⟩ = some (.bool h.had) := cell_of_block p0 7
  have c1_7 : w1.cell? ⟨w.heap.size + 1, 7, none⟩ = some (.bool false) := cell_of_block p1 7
  have f1_7 : w1.frozen? ⟨w.heap.size + 1, 7, none⟩ = false := unfrozen_of_block p1 7
  have c2_7 : w1.cell? ⟨w.heap.size + 1 + 1, 7, none⟩ = some (.bool false) := cell_of_block p2 7
  have f2_7 : w1.frozen? ⟨w.heap.size + 1 + 1, 7, none⟩ = false := unfrozen_of_block p2 7
  have c0_8 : w1.cell? ⟨w.heap.size, 8, none⟩ = some (.int .i64 h.cnt) := cell_of_block p0 8
  have c1_8 : w1.cell? ⟨w.heap.size + 1, 8, none⟩ = some (.int .i64 0) := cell_of_block p1 8
  have f1_8 : w1.frozen? ⟨w.heap.size + 1, 8, none⟩ = false := unfrozen_of_block p1 8
  have c2_8 : w1.cell? ⟨w.heap.size + 1 + 1, 8, none⟩ = some (.int .i64 0) := cell_of_block p2 8
  have f2_8 : w1.frozen? ⟨w.heap.size + 1 + 1, 8, none⟩ = false := unfrozen_of_block p2 8
  have c0_9 : w1.cell? ⟨w.heap.size, 9, none⟩ = some (.int .i64 h.beg) := cell_of_block p0 9
  have c1_9 : w1.cell? ⟨w.heap.size + 1, 9, none⟩ = some (.int .i64 0) := cell_of_block p1 9
  have f1_9 : w1.frozen? ⟨w.heap.size + 1, 9, none⟩ = false := unfrozen_of_block p1 9
  have c2_9 : w1.cell? ⟨w.heap.size + 1 + 1, 9, none⟩ = some (.int .i64 0) := cell_of_block p2 9
  have f2_9 : w1.frozen? ⟨w.heap.size + 1 + 1, 9, none⟩ = false := unfrozen_of_block p2 9
  have c0_10 : w1.cell? ⟨w.heap.size, 10, none⟩ = some (.int .i64 h.rep) := cell_of_block p0 10
  have c1_10 : w1.cell? ⟨w.heap.size + 1, 10, none⟩ = some (.int .i64 0) := cell_of_block p1 10
  have f1_10 : w1.frozen? ⟨w.heap.size + 1, 10, none⟩ = false := unfrozen_of_block p1 10
  have c2_10 : w1.cell? ⟨w.heap.size + 1 + 1, 10, none⟩ = some (.int .i64 0) := cell_of_block p2 10
  have f2_10 : w1.frozen? ⟨w.heap.size + 1 + 1, 10, none⟩ = false := unfrozen_of_block p2 10
  have c0_11 : w1.cell? ⟨w.heap.size, 11, none⟩ = some (.int .i64 h.out) := cell_of_block p0 11
  have c1_11 : w1.cell? ⟨w.heap.size + 1, 11, none⟩ = some (.int .i64 0) := cell_of_block p1 11
  have f1_11 : w1.frozen? ⟨w.heap.size + 1, 11, none⟩ = false := unfrozen_of_block p1 11
  have c2_11 : w1.cell? ⟨w.heap.size + 1 + 1, 11, none⟩ = some (.int .i64 0) := cell_of_block p2 11
  have f2_11 : w1.frozen? ⟨w.heap.size + 1 + 1, 11, none⟩ = false := unfrozen_of_block p2 11

  go_wp2
  have kq : Below (w.heap.size + 1 + 1) w1 (((((((((((w1.setCell ⟨w.heap.size + 1 + 1, 1, none⟩ (.int .i64 h.call.code)).setCell ⟨w.heap.size + 1 + 1, 2, none⟩ (.int .i64 h.call.a)).setCell ⟨w.heap.size + 1 + 1, 3, none⟩ (.int .i64 h.call.b)).setCell ⟨w.heap.size + 1 + 1, 4, none⟩ (.int .i64 h.call.c)).setCell ⟨w.heap.size + 1 + 1, 5, none⟩ (.int .i64 h.tim)).setCell ⟨w.heap.size + 1 + 1, 6, none⟩ (.int .i64 h.whe)).setCell ⟨w.heap.size + 1 + 1, 7, none⟩ (.bool h.had)).setCell ⟨w.heap.size + 1 + 1, 8, none⟩ (.int .i64 h.cnt)).setCell ⟨w.heap.size + 1 + 1, 9, none⟩ (.int .i64 h.beg)).setCell ⟨w.heap.size + 1 + 1, 10, none⟩ (.int .i64 h.rep)).setCell ⟨w.heap.size + 1 + 1, 11, none⟩ (.int .i64 h.out)) :=
    ((((((((((((Below.refl _ w1).setCell (p := ⟨w.heap.size + 1 + 1, 1, none⟩) (Nat.le_refl _) (.int .i64 h.call.code)).setCell (p := ⟨w.heap.size + 1 + 1, 2, none⟩) (Nat.le_refl _) (.int .i64 h.call.a)).setCell (p := ⟨w.heap.size + 1 + 1, 3, none⟩) (Nat.le_refl _) (.int .i64 h.call.b)).setCell (p := ⟨w.heap.size + 1 + 1, 4, none⟩) (Nat.le_refl _) (.int .i64 h.call.c)).setCell (p := ⟨w.heap.size + 1 + 1, 5, none⟩) (Nat.le_refl _) (.int .i64 h.tim)).setCell (p := ⟨w.heap.size + 1 + 1, 6, none⟩) (Nat.le_refl _) (.int .i64 h.whe)).setCell (p := ⟨w.heap.size + 1 + 1, 7, none⟩) (Nat.le_refl _) (.bool h.had)).setCell (p := ⟨w.heap.size + 1 + 1, 8, none⟩) (Nat.le_refl _) (.int .i64 h.cnt)).setCell (p := ⟨w.heap.size + 1 + 1, 9, none⟩) (Nat.le_refl _) (.int .i64 h.beg)).setCell (p := ⟨w.heap.size + 1 + 1, 10, none⟩) (Nat.le_refl _) (.int .i64 h.rep)).setCell (p := ⟨w.heap.size + 1 + 1, 11, none⟩) (Nat.le_refl _) (.int .i64 h.out))
  have r0 := set_hand (h := h) (b_block kq p1 (Nat.lt_succ_self _))
  have hb := b_set_hand (n := w.heap.size) (B := w.heap.size + 1) (h := h) (kw.trans (kq.mono (by omega))) (by omega)
  have hq := r0
  clear r0
  have r0 := cell_of_block hq 0
  have r1 := cell_of_block hq 1
  have r2 := cell_of_block hq 2
  have r3 := cell_of_block hq 3
  have r4 := cell_of_block hq 4
  have r5 := cell_of_block hq 5
  have r6 := cell_of_block hq 6
  have r7 := cell_of_block hq 7
  have r8 := cell_of_block hq 8
  have r9 := cell_of_block hq 9
  have r10 := cell_of_block hq 10
  have r11 := cell_of_block hq 11
  exact bodyPost_ret (v := hdV h) (by simp [results, Try.results8, go_sem, r0, r1, r2, r3, r4, r5, r6, r7, r8, r9, r10, r11]) rfl ⟨rfl, hb⟩

theorem cellsCallLaw : Try.prog.cellsOf 29 = 4 := by kernel_rfl
set_option maxRecDepth 100000 in
theorem open_call {H : Type} {enc : TypeId × Value → H} {W : World} {base : Nat} {sp : Nat → Bool} {hd : Bool} {v : Value} {d : DataW H} {p : List MemPlace}
    (hv : Value.okWide Try.prog W .any base 29 v) (h : DataW.Trod enc Try.prog W 0 sp hd 29 v d p) :
    ∃ q : Ca, v = caV q ∧ d = .agg (numsD (caL q)) ∧ p = [] ∧ ∀ z ∈ caL q, (Lit.int .i64 z).wf = true := by
  obtain ⟨zs, hl, rfl, rfl, rfl, hw⟩ := open_flat Try.underlying29 (I := 2) (by kernel_rfl) Try.underlying2 (by kernel_rfl) (by kernel_rfl) hv h
  match zs, hl with
  | [a, b, c, d], _ => exact ⟨⟨a, b, c, d⟩, rfl, rfl, rfl, hw⟩
set_option maxRecDepth 100000 in
theorem shut_call {H : Type} {enc : TypeId × Value → H} {q : Ca} (hw : ∀ z ∈ caL q, (Lit.int .i64 z).wf = true) (W' : World) (n : Nat) (sp : Nat → Bool) (hd : Bool) :
    DataW.Trod enc Try.prog W' n sp hd 29 (caV q) (.agg (numsD (caL q))) [] :=
  shut_flat (zs := caL q) Try.underlying29 (I := 2) (by kernel_rfl) Try.underlying2 (by kernel_rfl) (by kernel_rfl) rfl hw
abbrev hdK : List Kd := [.num, .sub 29 4, .num, .num, .flag, .num, .num, .num, .num]
abbrev hdF (h : Hd) : List Fd := [.num h.pos, .sub (caL h.call), .num h.tim, .num h.whe, .flag h.had, .num h.cnt, .num h.beg, .num h.rep, .num h.out]
theorem hdK_subs : ∀ k ∈ hdK, subsOk Try.prog 2 k := by
  intro k hk
  simp only [hdK, List.mem_cons, List.not_mem_nil, or_false] at hk
  rcases hk with rfl | rfl | rfl | rfl | rfl | rfl | rfl | rfl | rfl <;> first | trivial | exact ⟨_, Try.underlying29, by kernel_rfl, by kernel_rfl⟩
theorem hd_opens : ∀ {ds : List Fd}, Fd.oks hdK ds → ∃ h : Hd, ds = hdF h ∧ Fd.oks hdK (hdF h)
  | [.num a, .sub [k, x, y, z], .num b, .num c, .flag d, .num e, .num f, .num g, .num i], ho => ⟨⟨a, ⟨k, x, y, z⟩, b, c, d, e, f, g, i⟩, rfl, ho⟩
set_option maxRecDepth 100000 in
theorem open_hand {H : Type} {enc : TypeId × Value → H} {W : World} {base : Nat} {sp : Nat → Bool} {hd : Bool} {v : Value} {d : DataW H} {p : List MemPlace}
    (hv : Value.okWide Try.prog W .any base 31 v) (h : DataW.Trod enc Try.prog W 0 sp hd 31 v d p) :
    ∃ x : Hd, v = hdV x ∧ d = .agg ((hdF x).map Fd.dat) ∧ p = [] ∧ Fd.oks hdK (hdF x) := by
  obtain ⟨ds, ho, rfl, rfl, rfl⟩ := open_tree (ks := hdK) Try.underlying31 Try.underlying2 Try.underlying4 (by kernel_rfl) hdK_subs (by kernel_rfl) (by kernel_rfl) hv h
  obtain ⟨x, rfl, ho⟩ := hd_opens ho
  exact ⟨x, rfl, rfl, rfl, ho⟩
set_option maxRecDepth 100000 in
theorem shut_hand {H : Type} {enc : TypeId × Value → H} {x : Hd} (ho : Fd.oks hdK (hdF x)) (W' : World) (n : Nat) (sp : Nat → Bool) (hd : Bool) :
    DataW.Trod enc Try.prog W' n sp hd 31 (hdV x) (.agg ((hdF x).map Fd.dat)) [] :=
  shut_tree (ks := hdK) (ds := hdF x) Try.underlying31 Try.underlying2 Try.underlying4 (by kernel_rfl) hdK_subs (by kernel_rfl) (by kernel_rfl) ho

end Go.Proofs.Ytcfkginbkammoaa

/-
  Append onto a list of processors of the call's own.
-/
namespace Go.Proofs.Ytcfkginbkammoaa
open Go.RowKit Go.Joins
set_option linter.unusedVariables false

/-- a processor's four cells -/
def pcAt (P : Pcs) (V : Nat → Value) (i : Nat) : Nat → Value
  | 0 => V i
  | 1 => .int .i64 (P i).l
  | 2 => .int .i64 (P i).e
  | _ => .int .i64 (P i).d
theorem below4 {P : Nat → Prop} (h0 : P 0) (h1 : P 1) (h2 : P 2) (h3 : P 3) : ∀ j, j < 4 → P j
  | 0, _ => h0
  | 1, _ => h1
  | 2, _ => h2
  | 3, _ => h3
  | _ + 4, h => by omega
def cellsP (P : Pcs) (V : Nat → Value) : Nat → List Value
  | 0 => []
  | n + 1 => cellsP P V n ++ [V n, .int .i64 (P n).l, .int .i64 (P n).e, .int .i64 (P n).d]
theorem cellsP_length (P : Pcs) (V : Nat → Value) : ∀ n, (cellsP P V n).length = n * 4
  | 0 => rfl
  | n + 1 => by rw [cellsP, List.length_append, cellsP_length P V n]; simp; omega
theorem cellsP_get (P : Pcs) (V : Nat → Value) : ∀ n i, i < n → ∀ j, j < 4 → (cellsP P V n)[i * 4 + j]? = some (pcAt P V i j)
  | 0, i, h => absurd h (Nat.not_lt_zero _)
  | n + 1, i, h => by
    intro j hj
    rw [cellsP]
    by_cases e : i = n
    · subst e
      rw [List.getElem?_append_right (by rw [cellsP_length]; omega), cellsP_length, Nat.add_sub_cancel_left]
      revert j
      apply below4 <;> rfl
    · rw [List.getElem?_append_left (by rw [cellsP_length]; omega)]
      exact cellsP_get P V n i (by omega) j hj
theorem cellsP_congr {P Q : Pcs} {V U : Nat → Value} : ∀ n, (∀ i, i < n → P i = Q i) → (∀ i, i < n → V i = U i) → cellsP P V n = cellsP Q U n
  | 0, _, _ => rfl
  | n + 1, h, hv => by rw [cellsP, cellsP, cellsP_congr n (fun i hi => h i (by omega)) (fun i hi => hv i (by omega)), h n (by omega), hv n (by omega)]
theorem cellsP_push (P : Pcs) (V : Nat → Value) (n : Nat) (p : Pc) (u : Value) : cellsP P V n ++ [u, .int .i64 p.l, .int .i64 p.e, .int .i64 p.d] = cellsP (putP P n p) (putV V n u) (n + 1) := by
  rw [cellsP, putP_same, putV_same, cellsP_congr (P := P) (Q := putP P n p) (V := V) (U := putV V n u) n (fun i hi => (putP_other P (i := n) (k := i) p (by omega)).symm) (fun i hi => (putV_other V (i := i) (k := n) u (by omega)).symm)]
theorem proc_info2 : (Try.prog.info? 75).map (fun i => (i.zero, i.size, i.bytes)) = some (some (.agg #[.slice none 0 0, .int .i64 0, .int .i64 0, .int .i64 0]), 4, 48) := by kernel_rfl

/-- the list itself, no word of the slots -/
def ListRow (w : World) (B : Nat) (v : Value) (m : Nat) (P : Pcs) (V : Nat → Value) : Prop :=
  (m = 0 ∧ v = .slice none 0 0) ∨ ∃ g cap, v = .slice (some ⟨g, 0, none⟩) m cap ∧ ListAt w B g m cap P V
theorem listP_of_row {w : World} {B n : Nat} {v : Value} {P : Pcs} {V : Nat → Value} (h : w.ownsRow B 75 4 v n (cellsP P V n)) : ListRow w B v n P V := by
  rcases h.2 with ⟨rfl, rfl⟩ | ⟨g, cap, cur, rfl, hB, hg, hn, hcm, hs, ht⟩
  · exact .inl ⟨rfl, rfl⟩
  · refine .inr ⟨g, cap, rfl, hB, hn, hcm, cur, hg, hs, fun i hi => ?_⟩
    have key : ∀ j, j < 4 → cur[i * 4 + j]? = some (pcAt P V i j) := by
      intro j hj
      have h1 := cellsP_get P V n i hi j hj
      rw [← ht, List.getElem?_take_of_lt (by omega)] at h1
      simpa using h1
    exact ⟨key 0 (by omega), key 1 (by omega), key 2 (by omega), key 3 (by omega)⟩
theorem rowP_of_list {w : World} {B n : Nat} {v : Value} {P : Pcs} {V : Nat → Value} (h : ListRow w B v n P V) : w.ownsRow B 75 4 v n (cellsP P V n) := by
  rcases h with ⟨rfl, rfl⟩ | ⟨g, cap, rfl, h1, h2, h3, cur, hh, hs, hr⟩
  · exact World.ownsRow_nil w B _ _
  refine ⟨cellsP_length P V n, .inr ⟨g, cap, cur, rfl, h1, hh, h2, h3, hs, ?_⟩⟩
  apply List.ext_getElem?
  intro k
  by_cases hk : k < n * 4
  · rw [List.getElem?_take_of_lt hk]
    have a := cellsP_get P V n (k / 4) (by omega) (k % 4) (by omega)
    have b : cur[k / 4 * 4 + k % 4]? = some (pcAt P V (k / 4) (k % 4)) := by
      obtain ⟨b0, b1, b2, b3⟩ := hr (k / 4) (by omega)
      exact below4 (P := fun j => cur[k / 4 * 4 + j]? = some (pcAt P V (k / 4) j)) b0 b1 b2 b3 (k % 4) (by omega)
    rw [show k / 4 * 4 + k % 4 = k by omega] at a b
    rw [a]; simpa using b
  · rw [List.getElem?_eq_none (by rw [List.length_take]; omega), List.getElem?_eq_none (by rw [cellsP_length]; omega)]
theorem ListRow.below {w w' : World} {B m : Nat} {v : Value} {P : Pcs} {V : Nat → Value} (h : ListRow w B v m P V) (hb : Below w.heap.size w w') : ListRow w' B v m P V := by
  rcases h with h | ⟨g, cap, e, h⟩
  · exact .inl h
  · exact .inr ⟨g, cap, e, h.below hb⟩
theorem ListRow.form {w : World} {B m : Nat} {v : Value} {P : Pcs} {V : Nat → Value} (h : ListRow w B v m P V) : ∃ a cap, v = .slice a m cap := by
  rcases h with ⟨rfl, rfl⟩ | ⟨g, cap, rfl, _⟩
  · exact ⟨_, _, rfl⟩
  · exact ⟨_, _, rfl⟩
theorem ListRow.own {w : World} {B m : Nat} {v : Value} {P : Pcs} {V : Nat → Value} (h : ListRow w B v m P V) (hh : HeapsAt w B m P V) : OwnPRow w B v m P := by
  rcases h with h | ⟨g, cap, e, h⟩
  · exact .inl h
  · exact .inr ⟨g, cap, V, e, h, hh⟩

theorem ListRow.block_ge {w : World} {B m : Nat} {v : Value} {P : Pcs} {V : Nat → Value} (h : ListRow w B v m P V) : ∀ x, v.ownBlock = some x → B ≤ x := by
  intro x hx
  rcases h with ⟨_, rfl⟩ | ⟨g, cap, rfl, h⟩
  · simp [Value.ownBlock] at hx
  · simp [Value.ownBlock] at hx
    subst hx
    exact h.1
theorem ListRow.block_lt {w : World} {B m : Nat} {v : Value} {P : Pcs} {V : Nat → Value} (h : ListRow w B v m P V) : ∀ x, v.ownBlock = some x → x < w.heap.size := by
  intro x hx
  rcases h with ⟨_, rfl⟩ | ⟨g, cap, rfl, h⟩
  · simp [Value.ownBlock] at hx
  · simp [Value.ownBlock] at hx
    subst hx
    exact h.lt
/-- the slots' blocks are none of the list's: they stay when the list grows -/
theorem HeapsAt.grown {w w' : World} {B B' m n : Nat} {v : Value} {P Q : Pcs} {V U : Nat → Value} (h : HeapsAt w B m P V) (hl : ListRow w B' v n Q U) (hg : w.grownBy w' v.ownBlock) : HeapsAt w' B m P V := by
  refine h.other fun i hi x hx => hg.block x ((h.1 i hi).lt_size x hx) ?_
  intro e
  rcases hl with ⟨_, rfl⟩ | ⟨g, cap, rfl, hl⟩
  · simp [Value.ownBlock] at e
  · simp [Value.ownBlock] at e
    exact hl.ne_heap (h.1 i hi) x hx e
theorem OwnRow.keptO {w w' : World} {B B' m n : Nat} {v u : Value} {f : Slots} {Q : Pcs} {U : Nat → Value} (h : OwnRow w B u n f) (hg : w.grownBy w' v.ownBlock) (hl : ListRow w B' v m Q U) : OwnRow w' B u n f := by
  rcases h with h | ⟨g, cap, rfl, h⟩
  · exact .inl h
  · refine .inr ⟨g, cap, rfl, h.block (hg.block g h.lt ?_)⟩
    intro e
    rcases hl with ⟨_, rfl⟩ | ⟨g', cap', rfl, hl⟩
    · simp [Value.ownBlock] at e
    · simp [Value.ownBlock] at e
      exact hl.ne_heap (OwnAt.own h) g rfl e
/-- one more, whose slots' list is its own -/
theorem HeapsAt.add {w : World} {B k : Nat} {P : Pcs} {V : Nat → Value} {u : Value} {p : Pc} (h : HeapsAt w B k P V) (ho : OwnRow w B u p.n p.f) (hd : ∀ i, i < k → ∀ x, (V i).ownBlock = some x → u.ownBlock ≠ some x) :
    HeapsAt w B (k + 1) (putP P k p) (putV V k u) := by
  refine ⟨fun i hi => ?_, fun i j hi hj hij x hx => ?_⟩
  · by_cases e : i = k
    · subst e; rw [putP_same, putV_same]; exact ho
    · rw [putP_other P p e, putV_other V u e]; exact h.1 i (by omega)
  · by_cases e : i = k
    · subst e
      rw [putV_same] at hx
      rw [putV_other V u (Ne.symm hij)]
      intro h2
      exact hd j (by omega) x h2 hx
    · rw [putV_other V u e] at hx
      by_cases e2 : j = k
      · subst e2
        rw [putV_same]
        exact hd i (by omega) x hx
      · rw [putV_other V u e2]
        exact h.2 i j (by omega) (by omega) hij x hx

theorem ListRow.set {w : World} {B m b : Nat} {v : Value} {P : Pcs} {V : Nat → Value} (h : ListRow w B v m P V) (hb : b < B) (o : Nat) (u : Value) : ListRow (w.setCell ⟨b, o, none⟩ u) B v m P V := by
  rcases h with h | ⟨g, cap, e, h⟩
  · exact .inl h
  · exact .inr ⟨g, cap, e, h.block (Below.heap_setCell w ⟨b, o, none⟩ u g (show g ≠ b by have := h.1; omega))⟩
theorem HeapsAt.block_ge {w : World} {B m : Nat} {P : Pcs} {V : Nat → Value} (h : HeapsAt w B m P V) {i : Nat} (hi : i < m) : ∀ x, (V i).ownBlock = some x → B ≤ x := by
  intro x hx
  rcases h.1 i hi with ⟨_, ev⟩ | ⟨g, c, ev, ho⟩
  · rw [ev] at hx; simp [Value.ownBlock] at hx
  · rw [ev] at hx; simp [Value.ownBlock] at hx; subst hx; exact ho.1
theorem HeapsAt.set {w : World} {B m b : Nat} {P : Pcs} {V : Nat → Value} (h : HeapsAt w B m P V) (hb : b < B) (o : Nat) (u : Value) : HeapsAt (w.setCell ⟨b, o, none⟩ u) B m P V :=
  h.other fun i hi x hx => Below.heap_setCell w ⟨b, o, none⟩ u x (show x ≠ b by have := h.block_ge hi x hx; omega)
theorem ListRow.congr {w : World} {B m : Nat} {v : Value} {P Q : Pcs} {V U : Nat → Value} (h : ListRow w B v m P V) (e : ∀ i, i < m → P i = Q i) (ev : ∀ i, i < m → V i = U i) : ListRow w B v m Q U := by
  rcases h with h | ⟨g, cap, e1, h⟩
  · exact .inl h
  · exact .inr ⟨g, cap, e1, h.congr e ev⟩
theorem b_grownO {a w : World} {B : Nat} {ob : Option Nat} (h : a.grownBy w ob) (hx : ∀ x, ob = some x → B ≤ x) (hs : B ≤ a.heap.size) : Below B a w :=
  ⟨h.os, h.tape, h.output, h.size, fun i hi => h.block i (by omega) (fun e => by have := hx i e.symm; omega)⟩

theorem run_append_proc (w : World) (B : Nat) (ty : TypeId) (v : Value) (n : Nat) (P : Pcs) (V : Nat → Value) (hown : w.ownsRow B 75 4 v n (cellsP P V n)) (b : Nat) (p : Pc) (u : Value) (hu : u.oneCell' = true)
    (hc : w.heap[b]? = some (.cells #[u, .int .i64 p.l, .int .i64 p.e, .int .i64 p.d] 75 (0, 0))) (hn : n + 1 ≤ 2097152) (hB : B ≤ w.heap.size) :
    ∃ v' w', (Builtin.append_ #[37, 37] ty #[v, .slice (some ⟨b, 0, none⟩) 1 1]).run Try.prog w = .ok v' w' ∧ w'.ownsRow B 75 4 v' (n + 1) (cellsP (putP P n p) (putV V n u) (n + 1)) ∧ w.grownBy w' v.ownBlock ∧ (v'.ownBlock = v.ownBlock ∨ v'.ownBlock = some w.heap.size) := by
  obtain ⟨i0, hi, hz, hs, hby⟩ := info_parts proc_info2
  have hbytes : (n + 1) * 48 ≤ 140737488355328 := by omega
  have h63 : n + 1 ≤ maxLen := by unfold maxLen; omega
  obtain ⟨v', w', hrun, h2, h3, _, h5⟩ := run_append_own_at (P := Try.prog) w B 37 ty 75 i0 _ 4 48 Try.underlying37 hi hz hs hby rfl (by decide) v n _ hown ⟨b, 0, none⟩ 1 1 [u, .int .i64 p.l, .int .i64 p.e, .int .i64 p.d] rfl
    (fun j x hx => by
      rw [Go.WideShapes.add_plain, Nat.zero_add]
      rw [cell_of_block hc j]
      simpa using hx) (by
      intro x hx
      simp only [List.mem_cons, List.mem_nil_iff, or_false] at hx
      rcases hx with rfl | rfl | rfl | rfl
      · exact hu
      all_goals rfl) h63 hbytes hB
  exact ⟨v', w', hrun, by rw [← cellsP_push]; exact h2, h3, h5⟩

theorem wp_append_proc {o : Oper} {a : Act} {K : Act → World → Prop} {Q : Exit → Act → World → Prop} {w : World} (s x : Operand)
    (ho : o.op = .call { callee := .builtin .append, args := #[s, x], argTypes := #[37, 37] })
    (B : Nat) (v : Value) (n : Nat) (P : Pcs) (V : Nat → Value) (hs : a.eval s = v) (hown : w.ownsRow B 75 4 v n (cellsP P V n)) (b : Nat) (p : Pc) (u : Value) (hu : u.oneCell' = true) (hx : a.eval x = .slice (some ⟨b, 0, none⟩) 1 1)
    (hc : w.heap[b]? = some (.cells #[u, .int .i64 p.l, .int .i64 p.e, .int .i64 p.d] 75 (0, 0))) (hn : n + 1 ≤ 2097152) (hB : B ≤ w.heap.size)
    (hK : ∀ v' w', w'.ownsRow B 75 4 v' (n + 1) (cellsP (putP P n p) (putV V n u) (n + 1)) → w.grownBy w' v.ownBlock → (v'.ownBlock = v.ownBlock ∨ v'.ownBlock = some w.heap.size) → K (a.put o.dst v') w') : o.wp Try.prog a w K Q := by
  obtain ⟨v', w', hr, h2, h3, h4⟩ := run_append_proc w B o.type v n P V hown b p u hu hc hn hB
  unfold Oper.wp execOp
  simp only [ho, resolve, invoke, builtin, Sem.run_bind, Sem.run_pure, Result.andThen_ok, List.map_toArray, List.map_cons, List.map_nil, hs, hx, hr]
  exact hK v' w' h2 h3 h4
theorem wpList_append_proc {ops : Array Oper} {rest : List Oper} {o : Oper} {a : Act} {Q : Exit → Act → World → Prop} {w : World} (hgd : o.guard = none) (s x : Operand)
    (ho : o.op = .call { callee := .builtin .append, args := #[s, x], argTypes := #[37, 37] })
    (B : Nat) (v : Value) (n : Nat) (P : Pcs) (V : Nat → Value) (hs : a.eval s = v) (hown : w.ownsRow B 75 4 v n (cellsP P V n)) (b : Nat) (p : Pc) (u : Value) (hu : u.oneCell' = true) (hx : a.eval x = .slice (some ⟨b, 0, none⟩) 1 1)
    (hc : w.heap[b]? = some (.cells #[u, .int .i64 p.l, .int .i64 p.e, .int .i64 p.d] 75 (0, 0))) (hn : n + 1 ≤ 2097152) (hB : B ≤ w.heap.size)
    (hK : ∀ v' w', w'.ownsRow B 75 4 v' (n + 1) (cellsP (putP P n p) (putV V n u) (n + 1)) → w.grownBy w' v.ownBlock → (v'.ownBlock = v.ownBlock ∨ v'.ownBlock = some w.heap.size) → wpList Try.prog ops Q rest (a.put o.dst v') w') : wpList Try.prog ops Q (o :: rest) a w :=
  wpList_plain hgd fun _ hK' => wp_append_proc s x ho B v n P V hs hown b p u hu hx hc hn hB fun v' w' h2 h3 h4 => hK' _ _ (hK v' w' h2 h3 h4)
theorem step_append_proc {ops : Array Oper} {o : Oper} {a : Act} {K : Act → World → Prop} {Q : Exit → Act → World → Prop} {E : Prop} {w : World} (hgd : o.guard = none) (s x : Operand)
    (ho : o.op = .call { callee := .builtin .append, args := #[s, x], argTypes := #[37, 37] })
    (B : Nat) (v : Value) (n : Nat) (P : Pcs) (V : Nat → Value) (hs : a.eval s = v) (hown : w.ownsRow B 75 4 v n (cellsP P V n)) (b : Nat) (p : Pc) (u : Value) (hu : u.oneCell' = true) (hx : a.eval x = .slice (some ⟨b, 0, none⟩) 1 1)
    (hc : w.heap[b]? = some (.cells #[u, .int .i64 p.l, .int .i64 p.e, .int .i64 p.d] 75 (0, 0))) (hn : n + 1 ≤ 2097152) (hB : B ≤ w.heap.size)
    (hK : ∀ v' w', w'.ownsRow B 75 4 v' (n + 1) (cellsP (putP P n p) (putV V n u) (n + 1)) → w.grownBy w' v.ownBlock → (v'.ownBlock = v.ownBlock ∨ v'.ownBlock = some w.heap.size) → K (a.put o.dst v') w') :
    if Region.wanted o (yielded ops a.tmps) = true then Oper.wp Try.prog o a w K Q else E := by
  have hw : Region.wanted o (yielded ops a.tmps) = true := by simp [Region.wanted, hgd]
  rw [if_pos hw]
  exact wp_append_proc s x ho B v n P V hs hown b p u hu hx hc hn hB hK

end Go.Proofs.Ytcfkginbkammoaa

/-
  A new memory (spec, chapter 5).
-/
namespace Go.Proofs.Ytcfkginbkammoaa
open Go.RowKit Go.Joins
set_option linter.unusedVariables false

/-- the zero memory -/
def me0 : Me := ⟨0, 0, fun _ => tm0, 0, fun _ => pc0⟩
/-- a new one -/
def newM (a b c : Int) : Me := if planB a b c then ⟨0, 0, fun _ => tm0, a.toNat, fun _ => ⟨0, fun _ => (0, 0), -1, -1, 0⟩⟩ else me0
theorem own_me0 (w : World) (B : Nat) : OwnMem w B (.slice none 0 0) (.slice none 0 0) me0 := ⟨.inl ⟨rfl, rfl⟩, .inl ⟨rfl, rfl⟩⟩

/-- a value that a variable of the call's own holds, and which is answered through the block of the answer -/
theorem OwnTRow.set3 {w : World} {B n b : Nat} {v : Value} {f : Tms} (h : OwnTRow w B v n f) (hb : b < B) (x y z : Value) :
    OwnTRow (((w.setCell ⟨b, 0, none⟩ x).setCell ⟨b, 1, none⟩ y).setCell ⟨b, 2, none⟩ z) B v n f := ((h.set hb 0 x).set hb 1 y).set hb 2 z
theorem set_same {w : World} {B b : Nat} (hb : b < B) (o : Nat) (x : Value) : ∀ g, B ≤ g → (w.setCell ⟨b, o, none⟩ x).heap[g]? = w.heap[g]? :=
  fun g hg => Below.heap_setCell w ⟨b, o, none⟩ x g (show g ≠ b by omega)
theorem OwnPRow.set3 {w : World} {B m b : Nat} {v : Value} {P : Pcs} (h : OwnPRow w B v m P) (hb : b < B) (x y z : Value) :
    OwnPRow (((w.setCell ⟨b, 0, none⟩ x).setCell ⟨b, 1, none⟩ y).setCell ⟨b, 2, none⟩ z) B v m P :=
  h.kept1 fun g hg _ => (set_same hb 2 z g hg).trans ((set_same hb 1 y g hg).trans (set_same hb 0 x g hg))
theorem OwnMem.set3 {w : World} {B b : Nat} {tv pv : Value} {M : Me} (h : OwnMem w B tv pv M) (hb : b < B) (x y z : Value) :
    OwnMem (((w.setCell ⟨b, 0, none⟩ x).setCell ⟨b, 1, none⟩ y).setCell ⟨b, 2, none⟩ z) B tv pv M := ⟨h.1.set3 hb x y z, h.2.set3 hb x y z⟩
theorem b_set3 {W w : World} {n g : Nat} (h : Below n W w) (hg : n ≤ g) (x y z : Value) : Below n W (((w.setCell ⟨g, 0, none⟩ x).setCell ⟨g, 1, none⟩ y).setCell ⟨g, 2, none⟩ z) :=
  ((h.setCell (p := ⟨g, 0, none⟩) hg x).setCell (p := ⟨g, 1, none⟩) hg y).setCell (p := ⟨g, 2, none⟩) hg z
/-- the new processors, as many as there are yet -/
def newP : Pcs := fun _ => ⟨0, fun _ => (0, 0), -1, -1, 0⟩

end Go.Proofs.Ytcfkginbkammoaa

/-
  What comes of a step: a memory, a hand, what is told (chapter 9): stored, compared, marked, looked at again.
-/
namespace Go.Proofs.Ytcfkginbkammoaa
open Go.ChangeShapes Go.WideShapes Go.ChangeAt Go.RowKit Go.Joins
set_option linter.unusedVariables false

/-- what is told: a kind, a timer, its gen, a time, the clock -/
structure Et where
  kin : Int
  tim : Int
  gen : Int
  whe : Int
  clk : Int
def et0 : Et := ⟨0, 0, 0, 0, 0⟩
structure Dn where
  m : Me
  h : Hd
  v : Et
def dn0 : Dn := ⟨me0, ⟨0, ca0, 0, 0, false, 0, 0, 0, 0⟩, et0⟩
abbrev dnCells (D : Dn) (tv pv : Value) : Array Value := #[.int .i64 D.m.c, tv, pv, .int .i64 D.h.pos, .int .i64 D.h.call.code, .int .i64 D.h.call.a, .int .i64 D.h.call.b, .int .i64 D.h.call.c, .int .i64 D.h.tim, .int .i64 D.h.whe, .bool D.h.had, .int .i64 D.h.cnt, .int .i64 D.h.beg, .int .i64 D.h.rep, .int .i64 D.h.out, .int .i64 D.v.kin, .int .i64 D.v.tim, .int .i64 D.v.gen, .int .i64 D.v.whe, .int .i64 D.v.clk]
abbrev dnV (D : Dn) (tv pv : Value) : Value := .agg #[.int .i64 D.m.c, tv, pv, .int .i64 D.h.pos, .int .i64 D.h.call.code, .int .i64 D.h.call.a, .int .i64 D.h.call.b, .int .i64 D.h.call.c, .int .i64 D.h.tim, .int .i64 D.h.whe, .bool D.h.had, .int .i64 D.h.cnt, .int .i64 D.h.beg, .int .i64 D.h.rep, .int .i64 D.h.out, .int .i64 D.v.kin, .int .i64 D.v.tim, .int .i64 D.v.gen, .int .i64 D.v.whe, .int .i64 D.v.clk]
/-- the answer of a step: made by the call itself -/
def NewDn (D : Dn) (q : Bool) (w : World) (e : Ending) (w' : World) : Prop := ∃ tv pv, e = .returned (.tuple #[dnV D tv pv, .bool q]) ∧ OwnMem w' w.heap.size tv pv D.m ∧ Below w.heap.size w w'
theorem twenty {w : World} {B : Nat} {x0 x1 x2 x3 x4 x5 x6 x7 x8 x9 x10 x11 x12 x13 x14 x15 x16 x17 x18 x19 : Value} {t : TypeId} (h0 : w.heap[B]? = some (.cells #[x0, x1, x2, x3, x4, x5, x6, x7, x8, x9, x10, x11, x12, x13, x14, x15, x16, x17, x18, x19] t (0, 0))) : w.cell? ⟨B, 0, none⟩ = some x0 ∧ w.cell? ⟨B, 1, none⟩ = some x1 ∧ w.cell? ⟨B, 2, none⟩ = some x2 ∧ w.cell? ⟨B, 3, none⟩ = some x3 ∧ w.cell? ⟨B, 4, none⟩ = some x4 ∧ w.cell? ⟨B, 5, none⟩ = some x5 ∧ w.cell? ⟨B, 6, none⟩ = some x6 ∧ w.cell? ⟨B, 7, none⟩ = some x7 ∧ w.cell? ⟨B, 8, none⟩ = some x8 ∧ w.cell? ⟨B, 9, none⟩ = some x9 ∧ w.cell? ⟨B, 10, none⟩ = some x10 ∧ w.cell? ⟨B, 11, none⟩ = some x11 ∧ w.cell? ⟨B, 12, none⟩ = some x12 ∧ w.cell? ⟨B, 13, none⟩ = some x13 ∧ w.cell? ⟨B, 14, none⟩ = some x14 ∧ w.cell? ⟨B, 15, none⟩ = some x15 ∧ w.cell? ⟨B, 16, none⟩ = some x16 ∧ w.cell? ⟨B, 17, none⟩ = some x17 ∧ w.cell? ⟨B, 18, none⟩ = some x18 ∧ w.cell? ⟨B, 19, none⟩ = some x19 ∧ w.frozen? ⟨B, 0, none⟩ = false ∧ w.frozen? ⟨B, 1, none⟩ = false ∧ w.frozen? ⟨B, 2, none⟩ = false ∧ w.frozen? ⟨B, 3, none⟩ = false ∧ w.frozen? ⟨B, 4, none⟩ = false ∧ w.frozen? ⟨B, 5, none⟩ = false ∧ w.frozen? ⟨B, 6, none⟩ = false ∧ w.frozen? ⟨B, 7, none⟩ = false ∧ w.frozen? ⟨B, 8, none⟩ = false ∧ w.frozen? ⟨B, 9, none⟩ = false ∧ w.frozen? ⟨B, 10, none⟩ = false ∧ w.frozen? ⟨B, 11, none⟩ = false ∧ w.frozen? ⟨B, 12, none⟩ = false ∧ w.frozen? ⟨B, 13, none⟩ = false ∧ w.frozen? ⟨B, 14, none⟩ = false ∧ w.frozen? ⟨B, 15, none⟩ = false ∧ w.frozen? ⟨B, 16, none⟩ = false ∧ w.frozen? ⟨B, 17, none⟩ = false ∧ w.frozen? ⟨B, 18, none⟩ = false ∧ w.frozen? ⟨B, 19, none⟩ = false :=
  ⟨cell_of_block h0 0, cell_of_block h0 1, cell_of_block h0 2, cell_of_block h0 3, cell_of_block h0 4, cell_of_block h0 5, cell_of_block h0 6, cell_of_block h0 7, cell_of_block h0 8, cell_of_block h0 9, cell_of_block h0 10, cell_of_block h0 11, cell_of_block h0 12, cell_of_block h0 13, cell_of_block h0 14, cell_of_block h0 15, cell_of_block h0 16, cell_of_block h0 17, cell_of_block h0 18, cell_of_block h0 19, unfrozen_of_block h0 0, unfrozen_of_block h0 1, unfrozen_of_block h0 2, unfrozen_of_block h0 3, unfrozen_of_block h0 4, unfrozen_of_block h0 5, unfrozen_of_block h0 6, unfrozen_of_block h0 7, unfrozen_of_block h0 8, unfrozen_of_block h0 9, unfrozen_of_block h0 10, unfrozen_of_block h0 11, unfrozen_of_block h0 12, unfrozen_of_block h0 13, unfrozen_of_block h0 14, unfrozen_of_block h0 15, unfrozen_of_block h0 16, unfrozen_of_block h0 17, unfrozen_of_block h0 18, unfrozen_of_block h0 19⟩
theorem set_done {w : World} {B : Nat} {x0 x1 x2 x3 x4 x5 x6 x7 x8 x9 x10 x11 x12 x13 x14 x15 x16 x17 x18 x19 : Value} {t : TypeId} {D : Dn} {tv pv : Value} (h0 : w.heap[B]? = some (.cells #[x0, x1, x2, x3, x4, x5, x6, x7, x8, x9, x10, x11, x12, x13, x14, x15, x16, x17, x18, x19] t (0, 0))) :
    ((((((((((((((((((((w.setCell ⟨B, 0, none⟩ (.int .i64 D.m.c)).setCell ⟨B, 1, none⟩ (tv)).setCell ⟨B, 2, none⟩ (pv)).setCell ⟨B, 3, none⟩ (.int .i64 D.h.pos)).setCell ⟨B, 4, none⟩ (.int .i64 D.h.call.code)).setCell ⟨B, 5, none⟩ (.int .i64 D.h.call.a)).setCell ⟨B, 6, none⟩ (.int .i64 D.h.call.b)).setCell ⟨B, 7, none⟩ (.int .i64 D.h.call.c)).setCell ⟨B, 8, none⟩ (.int .i64 D.h.tim)).setCell ⟨B, 9, none⟩ (.int .i64 D.h.whe)).setCell ⟨B, 10, none⟩ (.bool D.h.had)).setCell ⟨B, 11, none⟩ (.int .i64 D.h.cnt)).setCell ⟨B, 12, none⟩ (.int .i64 D.h.beg)).setCell ⟨B, 13, none⟩ (.int .i64 D.h.rep)).setCell ⟨B, 14, none⟩ (.int .i64 D.h.out)).setCell ⟨B, 15, none⟩ (.int .i64 D.v.kin)).setCell ⟨B, 16, none⟩ (.int .i64 D.v.tim)).setCell ⟨B, 17, none⟩ (.int .i64 D.v.gen)).setCell ⟨B, 18, none⟩ (.int .i64 D.v.whe)).setCell ⟨B, 19, none⟩ (.int .i64 D.v.clk)).heap[B]? = some (.cells (dnCells D tv pv) t (0, 0)) := by
  have hx := (block_setCell (i := 19) (block_setCell (i := 18) (block_setCell (i := 17) (block_setCell (i := 16) (block_setCell (i := 15) (block_setCell (i := 14) (block_setCell (i := 13) (block_setCell (i := 12) (block_setCell (i := 11) (block_setCell (i := 10) (block_setCell (i := 9) (block_setCell (i := 8) (block_setCell (i := 7) (block_setCell (i := 6) (block_setCell (i := 5) (block_setCell (i := 4) (block_setCell (i := 3) (block_setCell (i := 2) (block_setCell (i := 1) (block_setCell (i := 0) h0 (.int .i64 D.m.c)) (tv)) (pv)) (.int .i64 D.h.pos)) (.int .i64 D.h.call.code)) (.int .i64 D.h.call.a)) (.int .i64 D.h.call.b)) (.int .i64 D.h.call.c)) (.int .i64 D.h.tim)) (.int .i64 D.h.whe)) (.bool D.h.had)) (.int .i64 D.h.cnt)) (.int .i64 D.h.beg)) (.int .i64 D.h.rep)) (.int .i64 D.h.out)) (.int .i64 D.v.kin)) (.int .i64 D.v.tim)) (.int .i64 D.v.gen)) (.int .i64 D.v.whe)) (.int .i64 D.v.clk))
  simp only [List.setIfInBounds_toArray, List.set_cons_zero, List.set_cons_succ] at hx
  exact hx
theorem b_set_done {W w : World} {n B : Nat} {D : Dn} {tv pv : Value} (hb : Below n W w) (hn : n ≤ B) :
    Below n W ((((((((((((((((((((w.setCell ⟨B, 0, none⟩ (.int .i64 D.m.c)).setCell ⟨B, 1, none⟩ (tv)).setCell ⟨B, 2, none⟩ (pv)).setCell ⟨B, 3, none⟩ (.int .i64 D.h.pos)).setCell ⟨B, 4, none⟩ (.int .i64 D.h.call.code)).setCell ⟨B, 5, none⟩ (.int .i64 D.h.call.a)).setCell ⟨B, 6, none⟩ (.int .i64 D.h.call.b)).setCell ⟨B, 7, none⟩ (.int .i64 D.h.call.c)).setCell ⟨B, 8, none⟩ (.int .i64 D.h.tim)).setCell ⟨B, 9, none⟩ (.int .i64 D.h.whe)).setCell ⟨B, 10, none⟩ (.bool D.h.had)).setCell ⟨B, 11, none⟩ (.int .i64 D.h.cnt)).setCell ⟨B, 12, none⟩ (.int .i64 D.h.beg)).setCell ⟨B, 13, none⟩ (.int .i64 D.h.rep)).setCell ⟨B, 14, none⟩ (.int .i64 D.h.out)).setCell ⟨B, 15, none⟩ (.int .i64 D.v.kin)).setCell ⟨B, 16, none⟩ (.int .i64 D.v.tim)).setCell ⟨B, 17, none⟩ (.int .i64 D.v.gen)).setCell ⟨B, 18, none⟩ (.int .i64 D.v.whe)).setCell ⟨B, 19, none⟩ (.int .i64 D.v.clk)) :=
  ((((((((((((((((((((hb.setCell (p := ⟨B, 0, none⟩) hn (.int .i64 D.m.c)).setCell (p := ⟨B, 1, none⟩) hn (tv)).setCell (p := ⟨B, 2, none⟩) hn (pv)).setCell (p := ⟨B, 3, none⟩) hn (.int .i64 D.h.pos)).setCell (p := ⟨B, 4, none⟩) hn (.int .i64 D.h.call.code)).setCell (p := ⟨B, 5, none⟩) hn (.int .i64 D.h.call.a)).setCell (p := ⟨B, 6, none⟩) hn (.int .i64 D.h.call.b)).setCell (p := ⟨B, 7, none⟩) hn (.int .i64 D.h.call.c)).setCell (p := ⟨B, 8, none⟩) hn (.int .i64 D.h.tim)).setCell (p := ⟨B, 9, none⟩) hn (.int .i64 D.h.whe)).setCell (p := ⟨B, 10, none⟩) hn (.bool D.h.had)).setCell (p := ⟨B, 11, none⟩) hn (.int .i64 D.h.cnt)).setCell (p := ⟨B, 12, none⟩) hn (.int .i64 D.h.beg)).setCell (p := ⟨B, 13, none⟩) hn (.int .i64 D.h.rep)).setCell (p := ⟨B, 14, none⟩) hn (.int .i64 D.h.out)).setCell (p := ⟨B, 15, none⟩) hn (.int .i64 D.v.kin)).setCell (p := ⟨B, 16, none⟩) hn (.int .i64 D.v.tim)).setCell (p := ⟨B, 17, none⟩) hn (.int .i64 D.v.gen)).setCell (p := ⟨B, 18, none⟩) hn (.int .i64 D.v.whe)).setCell (p := ⟨B, 19, none⟩) hn (.int .i64 D.v.clk))

abbrev etV (v : Et) : Value := .agg #[.int .i64 v.kin, .int .i64 v.tim, .int .i64 v.gen, .int .i64 v.whe, .int .i64 v.clk]
/-! ### a struct whose cells are a letter, stored at once -/
theorem there_of_cells {w : World} {b : Nat} {C : Array Value} {t : TypeId} (h : w.heap[b]? = some (.cells C t (0, 0))) : w.there b 0 C.size := fun j hj => by
  rw [Nat.zero_add, cell_of_block h j, unfrozen_of_block h j]
  exact ⟨by simp [hj], rfl⟩
theorem b_setCells {W : World} {n b : Nat} (hn : n ≤ b) : ∀ (vs : List Value) (o : Nat) {w : World}, Below n W w → Below n W (w.setCells b o vs)
  | [], _, _, h => h
  | v :: r, o, _, h => by rw [World.setCells]; exact b_setCells hn r (o + 1) (h.setCell (p := ⟨b, o, none⟩) hn v)
theorem heap_setCells_at {b : Nat} {t : TypeId} : ∀ (vs pre post : List Value) {w : World}, post.length = vs.length → w.heap[b]? = some (.cells (pre ++ post).toArray t (0, 0)) →
    (w.setCells b pre.length vs).heap[b]? = some (.cells (pre ++ vs).toArray t (0, 0))
  | [], pre, post, w, hl, h => by
    have : post = [] := List.eq_nil_of_length_eq_zero (by simpa using hl)
    subst this
    simpa [World.setCells] using h
  | v :: r, pre, [], w, hl, h => by simp at hl
  | v :: r, pre, p :: ps, w, hl, h => by
    have h1 := block_setCell (i := pre.length) h v
    have e : (pre ++ p :: ps).toArray.setIfInBounds pre.length v = ((pre ++ [v]) ++ ps).toArray := by simp
    rw [e] at h1
    have h2 := heap_setCells_at r (pre ++ [v]) ps (by simpa using hl) h1
    rw [World.setCells]
    simpa using h2
theorem heap_setCells {w : World} {b : Nat} {t : TypeId} {C cs : Array Value} (h : w.heap[b]? = some (.cells C t (0, 0))) (hl : cs.size = C.size) : (w.setCells b 0 cs.toList).heap[b]? = some (.cells cs t (0, 0)) := by
  have := heap_setCells_at (b := b) (t := t) cs.toList [] C.toList (w := w) (by simp [hl]) (by simpa using h)
  simpa using this
theorem keeps_setCells {T : List TypeId} {b : Nat} {t : TypeId} (ht : t ∈ T) : ∀ (vs : List Value) (o : Nat) {a w : World} {C : Array Value}, KeepsBut T a w → w.heap[b]? = some (.cells C t (0, 0)) → KeepsBut T a (w.setCells b o vs)
  | [], _, _, _, _, h, _ => h
  | v :: r, o, _, _, _, h, hb => by rw [World.setCells]; exact keeps_setCells ht r (o + 1) (h.set hb ht o v) (block_setCell (i := o) hb v)
theorem size_setCells (b : Nat) : ∀ (vs : List Value) (o : Nat) (w : World), (w.setCells b o vs).heap.size = w.heap.size
  | [], _, _ => rfl
  | v :: r, o, w => by rw [World.setCells, size_setCells b r]; simp
theorem run_store_letter {P : Program} {cs : Array Value} (h1 : cs.size = 20) (h2 : cs.all (·.oneCell') = true) (W : World) (b : Nat) (h3 : W.there b 0 20) : (storeCells ⟨b, 0, none⟩ cs.toList).run P W = .ok () (W.setCells b 0 cs.toList) := by
  have := run_storeCells_cells (P := P) b 0 cs.toList 0 W (fun j hj => by simpa using (h3 j (by simpa [h1] using hj)).1) (fun j hj => by simpa using (h3 j (by simpa [h1] using hj)).2) (fun v hv => (Array.all_eq_true_iff_forall_mem.1 h2) v (by simpa using hv))
  simpa using this

end Go.Proofs.Ytcfkginbkammoaa

/-
  A law's memory that came in, opened; the rows of the exact laws on memories.
-/
namespace Go.Proofs.Ytcfkginbkammoaa
open Go.RowKit Go.Joins Go.ChangeShapes Go.WideShapes Go.ChangeAt Go.Deep
set_option linter.unusedVariables false

set_option maxRecDepth 100000 in
/-- a law's list of slots, read as a field -/
theorem slots_fieldM {H : Type} {enc : TypeId × Value → H} {W : World} {fuel : Nat} {v : Value} {y : DataW H × List MemPlace}
    (hf : DataW.trod enc Try.prog W 0 (fun _ => true) true fuel 63 [v] = some y) :
    ∃ (n : Nat) (f : Slots) (a : Option Addr) (cap : Nat), n ≤ maxLen ∧ v = .slice a n cap ∧ RowAt W v n f := by
  obtain ⟨a, len, cap, hv⟩ := slice_form Try.underlying63 hf
  simp at hv
  subst hv
  obtain ⟨y1, y2⟩ := y
  rcases Go.Deep.open_slice_pairs Try.underlying63 Try.underlying102 (by kernel_rfl) rfl rfl (by kernel_rfl) (by kernel_rfl) hf with ⟨hcs, _⟩ | ⟨x, l, c, m, k, V0, V1, D0, D1, P0, P1, hcs, _, hl, hm, hmm, _, hc⟩
  · simp at hcs
    obtain ⟨rfl, rfl, rfl⟩ := hcs
    exact ⟨0, fun _ => (0, 0), _, _, Nat.zero_le _, rfl, .inl ⟨rfl, _, _, rfl⟩⟩
  · simp at hcs
    obtain ⟨rfl, rfl, rfl⟩ := hcs
    simp at hmm
    subst hmm
    refine ⟨len, fun i => (intOf (V0 i), intOf (V1 i)), _, _, Nat.le_trans hl hm, rfl, ?_⟩
    rcases Nat.eq_zero_or_pos len with rfl | hp
    · exact .inl ⟨rfl, _, _, rfl⟩
    · obtain ⟨b, off, spot⟩ := x
      have hspot : spot = none := by
        have := (hc 0 (by omega)).1
        simpa [Addr.add] using World.cell?_spot this
      subst hspot
      refine .inr ⟨b, off, _, rfl, ?_, fun i hi => ?_⟩
      · have := (hc 0 (by omega)).1
        rw [Go.WideShapes.add_plain] at this
        exact World.block_lt_of_cell? W _ this
      · obtain ⟨h0, h1, t0, t1⟩ := hc i (by omega)
        rw [Go.WideShapes.add_plain] at h0 h1
        obtain ⟨x0, e0, _, _⟩ := DataW.trod_int Try.underlying2 t0
        obtain ⟨x1, e1, _, _⟩ := DataW.trod_int Try.underlying2 t1
        simp at e0 e1
        rw [e0] at h0
        rw [e1] at h1
        simp only [e0, e1]
        exact ⟨h0, by rw [Nat.add_assoc]; exact h1⟩

theorem eight_at {zs : List Int} (h : zs.length = 8) : ∃ t : Tm, ∀ j, j < 8 → (numsV zs)[j]? = some (.int .i64 (tmAt t j)) := by
  match zs, h with
  | [a, b, c, d, e, f, g, k], _ => exact ⟨⟨a, b, c, d, e, f, g, k⟩, below8 rfl rfl rfl rfl rfl rfl rfl rfl⟩

set_option maxRecDepth 100000 in
/-- a law's list of timers, read as a field -/
theorem timers_field {H : Type} {enc : TypeId × Value → H} {W : World} {fuel : Nat} {v : Value} {y : DataW H × List MemPlace}
    (hf : DataW.trod enc Try.prog W 0 (fun _ => true) true fuel 24 [v] = some y) :
    ∃ (n : Nat) (f : Tms), n ≤ maxLen ∧ RowTAt W v n f := by
  have c8 : Try.prog.cellsOf 79 = 8 := by kernel_rfl
  obtain ⟨y1, y2⟩ := y
  rcases Go.Deep.open_slice Try.underlying24 hf with ⟨hcs, _⟩ | ⟨x, len, cap, m, k, D, Pl, hcs, _, hl, hm, hmm, _, hc⟩
  · simp at hcs
    subst hcs
    exact ⟨0, fun _ => tm0, Nat.zero_le _, .inl ⟨rfl, _, _, rfl⟩⟩
  · simp at hcs hmm
    subst hcs hmm
    have each : ∀ i, i < m → ∃ t : Tm, ∀ j, j < 8 → W.cell? ((x.add (i * 8)).add j) = some (.int .i64 (tmAt t j)) := by
      intro i hi
      obtain ⟨cs', h1, h2⟩ := hc i hi
      rw [c8] at h1
      obtain ⟨_, hlen, hcell⟩ := World.cells?_some h1
      obtain ⟨zs, hz, rfl, _, _⟩ := trod_flat Try.underlying79 (I := 2) (by kernel_rfl) Try.underlying2 (by kernel_rfl) (by kernel_rfl) h2
      obtain ⟨t, ht⟩ := eight_at hz
      exact ⟨t, fun j hj => (hcell j (by omega)).trans (ht j hj)⟩
    haveI : Inhabited Tm := ⟨tm0⟩
    obtain ⟨f, hfx⟩ := choose_lt each
    refine ⟨len, f, Nat.le_trans hl hm, ?_⟩
    rcases Nat.eq_zero_or_pos len with rfl | hp
    · exact .inl ⟨rfl, _, _, rfl⟩
    · obtain ⟨b, off, spot⟩ := x
      have h00 := hfx 0 (by omega) 0 (by decide)
      have hspot : spot = none := by simpa [Addr.add] using World.cell?_spot h00
      subst hspot
      have h0 := h00
      rw [Go.WideShapes.add_plain, Go.WideShapes.add_plain] at h0
      refine .inr ⟨b, off, _, rfl, World.block_lt_of_cell? W _ h0, fun i hi j hj => ?_⟩
      have := hfx i (by omega) j hj
      rw [Go.WideShapes.add_plain, Go.WideShapes.add_plain] at this
      exact this

set_option maxRecDepth 100000 in
/-- a law's list of processors, read as a field -/
theorem procs_field {H : Type} {enc : TypeId × Value → H} {W : World} {fuel : Nat} {v : Value} {y : DataW H × List MemPlace}
    (hf : DataW.trod enc Try.prog W 0 (fun _ => true) true fuel 25 [v] = some y) :
    ∃ (m : Nat) (P : Pcs), m ≤ maxLen ∧ (∀ i, i < m → (P i).n ≤ maxLen) ∧ RowPAt W v m P := by
  have c4 : Try.prog.cellsOf 65 = 4 := by kernel_rfl
  obtain ⟨y1, y2⟩ := y
  rcases Go.Deep.open_slice Try.underlying25 hf with ⟨hcs, _⟩ | ⟨x, len, cap, m, k, D, Pl, hcs, _, hl, hm, hmm, _, hc⟩
  · simp at hcs
    subst hcs
    exact ⟨0, fun _ => pc0, Nat.zero_le _, fun i hi => by omega, .inl ⟨rfl, _, _, rfl⟩⟩
  · simp at hcs hmm
    subst hcs hmm
    have each : ∀ i, i < m → ∃ p : Pc, p.n ≤ maxLen ∧ ∃ a c, W.cell? ((x.add (i * 4)).add 0) = some (.slice a p.n c) ∧ W.cell? ((x.add (i * 4)).add 1) = some (.int .i64 p.l) ∧ W.cell? ((x.add (i * 4)).add 2) = some (.int .i64 p.e) ∧ W.cell? ((x.add (i * 4)).add 3) = some (.int .i64 p.d) ∧ RowAt W (.slice a p.n c) p.n p.f := by
      intro i hi
      obtain ⟨cs', h1, h2⟩ := hc i hi
      rw [c4] at h1
      obtain ⟨_, hlen, hcell⟩ := World.cells?_some h1
      obtain ⟨xs, n1, _, _, _, hxl, hfx⟩ := DataW.trod_struct Try.underlying65 h2
      match cs', hlen with
      | [u0, u1, u2, u3], _ =>
        have g0 := hfx 0 _ rfl
        have g1 := hfx 1 _ rfl
        have g2 := hfx 2 _ rfl
        have g3 := hfx 3 _ rfl
        match xs, hxl with
        | [z0, z1, z2, z3], _ =>
          have k0 : Try.prog.cellsOf 63 = 1 := by kernel_rfl
          have k1 : Try.prog.cellsOf 2 = 1 := by kernel_rfl
          simp [k0, k1] at g0 g1 g2 g3
          obtain ⟨n, f, a, c, hn, rfl, hr⟩ := slots_fieldM g0
          obtain ⟨x1, e1, _, _⟩ := DataW.trod_int Try.underlying2 g1
          obtain ⟨x2, e2, _, _⟩ := DataW.trod_int Try.underlying2 g2
          obtain ⟨x3, e3, _, _⟩ := DataW.trod_int Try.underlying2 g3
          simp at e1 e2 e3
          subst e1 e2 e3
          exact ⟨⟨n, f, x1, x2, x3⟩, hn, a, c, hcell 0 (by omega), hcell 1 (by omega), hcell 2 (by omega), hcell 3 (by omega), hr⟩
    haveI : Inhabited Pc := ⟨pc0⟩
    obtain ⟨P, hP⟩ := choose_lt each
    refine ⟨len, P, Nat.le_trans hl hm, fun i hi => (hP i (by omega)).1, ?_⟩
    rcases Nat.eq_zero_or_pos len with rfl | hp
    · exact .inl ⟨rfl, _, _, rfl⟩
    · obtain ⟨b, off, spot⟩ := x
      obtain ⟨_, a0, c0, h00, _⟩ := hP 0 (by omega)
      have hspot : spot = none := by simpa [Addr.add] using World.cell?_spot h00
      subst hspot
      have h0 := h00
      rw [Go.WideShapes.add_plain, Go.WideShapes.add_plain] at h0
      refine .inr ⟨b, off, _, rfl, World.block_lt_of_cell? W _ h0, fun i hi => ?_⟩
      obtain ⟨_, a, c, g0, g1, g2, g3, hr⟩ := hP i (by omega)
      rw [Go.WideShapes.add_plain, Go.WideShapes.add_plain] at g0 g1 g2 g3
      exact ⟨a, c, g0, g1, g2, g3, hr⟩

set_option maxRecDepth 100000 in
/-- a law's memory that came in -/
theorem mem_in {H : Type} {enc : TypeId × Value → H} {W : World} {base : Nat} {v : Value} {d : DataW H} {p : List MemPlace}
    (hv : Value.okWide Try.prog W .any base 27 v) (h : DataW.Trod enc Try.prog W 0 (fun _ => true) true 27 v d p) :
    ∃ (tv pv : Value) (M : Me), v = meV M.c tv pv ∧ M.tn ≤ maxLen ∧ M.pn ≤ maxLen ∧ (∀ i, i < M.pn → (M.p i).n ≤ maxLen) ∧ MemAt W tv pv M := by
  obtain ⟨c0, tv, pv, y0, y1, y2, m, rfl, _, _, h0, h1, h2⟩ := open_agg3 Try.underlying27 (by kernel_rfl) (by kernel_rfl) hv h
  obtain ⟨x, e0, _, _⟩ := DataW.trod_int Try.underlying2 h0
  simp at e0
  subst e0
  obtain ⟨tn, t, htn, hT⟩ := timers_field h1
  obtain ⟨pn, P, hpn, hn, hP⟩ := procs_field h2
  exact ⟨tv, pv, ⟨x, tn, t, pn, P⟩, rfl, htn, hpn, hn, hT, hP⟩

set_option maxRecDepth 100000 in
/-- a law's plan that came in -/
theorem plan_inM {H : Type} {enc : TypeId × Value → H} {W : World} {base : Nat} {v : Value} {d : DataW H} {p : List MemPlace}
    (hv : Value.okWide Try.prog W .any base 23 v) (h : DataW.Trod enc Try.prog W 0 (fun _ => true) true 23 v d p) :
    ∃ a b c : Int, v = .agg #[.int .i64 a, .int .i64 b, .int .i64 c] := by
  obtain ⟨c0, c1, c2, y0, y1, y2, m, rfl, _, _, h0, h1, h2⟩ := open_agg3 Try.underlying23 (by kernel_rfl) (by kernel_rfl) hv h
  obtain ⟨x, e1, _, _⟩ := DataW.trod_int Try.underlying2 h0
  obtain ⟨y, e2, _, _⟩ := DataW.trod_int Try.underlying2 h1
  obtain ⟨z, e3, _, _⟩ := DataW.trod_int Try.underlying2 h2
  simp at e1 e2 e3
  subst e1 e2 e3
  exact ⟨x, y, z, rfl⟩

end Go.Proofs.Ytcfkginbkammoaa

/-
  Blocks of other types are other blocks: what is written into one leaves the other.
-/
namespace Go.Proofs.Ytcfkginbkammoaa
open Go.RowKit Go.Joins
set_option linter.unusedVariables false

/-- blocks of other types are other blocks -/
theorem ne_ty {w : World} {b g : Nat} {c1 c2 : Array Value} {t1 t2 : TypeId} (h1 : w.heap[b]? = some (.cells c1 t1 (0, 0))) (h2 : w.heap[g]? = some (.cells c2 t2 (0, 0))) (h : t1 ≠ t2) : b ≠ g := by
  rintro rfl
  rw [h1] at h2
  injection h2 with h2
  injection h2 with _ h3 _
  exact h h3
theorem OwnTRow.other {w w' : World} {B n x : Nat} {v : Value} {f : Tms} {cx : Array Value} {tx : TypeId} (h : OwnTRow w B v n f) (hx : w.heap[x]? = some (.cells cx tx (0, 0))) (ht : 70 ≠ tx) (e : ∀ y, y ≠ x → w'.heap[y]? = w.heap[y]?) : OwnTRow w' B v n f := by
  rcases h with h | ⟨g, cap, ev, h⟩
  · exact .inl h
  · refine .inr ⟨g, cap, ev, h.block (e g ?_)⟩
    obtain ⟨_, _, _, cur, hh, _⟩ := h
    exact ne_ty hh hx ht
theorem heap_set3 (w : World) (b : Nat) (x y z : Value) {k : Nat} (hk : k ≠ b) : (((w.setCell ⟨b, 0, none⟩ x).setCell ⟨b, 1, none⟩ y).setCell ⟨b, 2, none⟩ z).heap[k]? = w.heap[k]? :=
  (Below.heap_setCell _ ⟨b, 2, none⟩ z k hk).trans ((Below.heap_setCell _ ⟨b, 1, none⟩ y k hk).trans (Below.heap_setCell _ ⟨b, 0, none⟩ x k hk))
/-- a block of another type than a slots' list's -/
theorem own_ne {w : World} {B n x : Nat} {v : Value} {f : Slots} {cx : Array Value} {tx : TypeId} (ho : OwnRow w B v n f) (hx : w.heap[x]? = some (.cells cx tx (0, 0))) (ht : 94 ≠ tx) : ∀ y, v.ownBlock = some y → y ≠ x := by
  intro y hy
  rcases ho with ⟨_, rfl⟩ | ⟨g', cap', rfl, ho⟩
  · simp [Value.ownBlock] at hy
  · simp [Value.ownBlock] at hy
    subst hy
    obtain ⟨_, _, _, cur', hh', _⟩ := ho
    exact ne_ty hh' hx ht

end Go.Proofs.Ytcfkginbkammoaa

/-
  A memory of the call's own whose lists of processors stands in a block that is known: what is written into it, cell by cell.
-/
namespace Go.Proofs.Ytcfkginbkammoaa
open Go.RowKit Go.Joins
set_option linter.unusedVariables false

/-! ### one number of a timer, of a processor -/
def tmSet (t : Tm) : Nat → Int → Tm
  | 0, x => { t with st := x }
  | 1, x => { t with wh := x }
  | 2, x => { t with nx := x }
  | 3, x => { t with pe := x }
  | 4, x => { t with pl := x }
  | 5, x => { t with ge := x }
  | 6, x => { t with ki := x }
  | 7, x => { t with ma := x }
  | _, _ => t
theorem tmAt_set (t : Tm) (x : Int) : ∀ j, j < 8 → ∀ i, i < 8 → tmAt (tmSet t j x) i = if i = j then x else tmAt t i := by
  apply below8 <;> (apply below8 <;> rfl)
def pcSet (p : Pc) : Nat → Int → Pc
  | 1, x => { p with l := x }
  | 2, x => { p with e := x }
  | 3, x => { p with d := x }
  | _, _ => p
def setTm (M : Me) (k j : Nat) (x : Int) : Me := { M with t := putT M.t k (tmSet (M.t k) j x) }
def setPc (M : Me) (k j : Nat) (x : Int) : Me := { M with p := putP M.p k (pcSet (M.p k) j x) }
def setHp (M : Me) (k n : Nat) (f : Slots) : Me := { M with p := putP M.p k { M.p k with n := n, f := f } }
theorem setTm_at (M : Me) (k j : Nat) (x : Int) : (setTm M k j x).t k = tmSet (M.t k) j x := by simp [setTm, putT]
theorem setTm_ne (M : Me) {k i : Nat} (j : Nat) (x : Int) (h : i ≠ k) : (setTm M k j x).t i = M.t i := by simp [setTm, putT, h]
theorem setPc_at (M : Me) (k j : Nat) (x : Int) : (setPc M k j x).p k = pcSet (M.p k) j x := by simp [setPc, putP]
theorem setPc_ne (M : Me) {k i : Nat} (j : Nat) (x : Int) (h : i ≠ k) : (setPc M k j x).p i = M.p i := by simp [setPc, putP, h]
theorem setHp_at (M : Me) (k n : Nat) (f : Slots) : (setHp M k n f).p k = { M.p k with n := n, f := f } := by simp [setHp, putP]
theorem setHp_ne (M : Me) {k i : Nat} (n : Nat) (f : Slots) (h : i ≠ k) : (setHp M k n f).p i = M.p i := by simp [setHp, putP, h]

/-! ### what is written into a list's block -/
theorem OwnTAt.set1 {w : World} {B g n cap : Nat} {f : Tms} (h : OwnTAt w B g n cap f) {k j : Nat} (hk : k < n) (hj : j < 8) (x : Int) : OwnTAt (w.setCell ⟨g, k * 8 + j, none⟩ (.int .i64 x)) B g n cap (putT f k (tmSet (f k) j x)) := by
  obtain ⟨h1, h2, h3, cur, hh, hs, hr⟩ := h
  refine ⟨h1, h2, h3, _, block_setCell hh (i := k * 8 + j) _, by simp [hs], fun i hi q hq => ?_⟩
  have hc := hr i hi q hq
  by_cases e : i = k
  · subst e
    rw [putT_same, tmAt_set (f i) x j hj q hq]
    by_cases eq : q = j
    · subst eq
      simp only [Array.getElem?_setIfInBounds, if_true]
      rw [if_pos (by omega)]
    · rw [Array.getElem?_setIfInBounds_ne (by omega), if_neg eq]; exact hc
  · rw [putT_other f _ e, Array.getElem?_setIfInBounds_ne (by omega)]; exact hc
theorem OwnTRow.at {w : World} {B g n cap : Nat} {f : Tms} (h : OwnTRow w B (.slice (some ⟨g, 0, none⟩) n cap) n f) : OwnTAt w B g n cap f := by
  rcases h with ⟨_, h⟩ | ⟨g', cap', e, h⟩
  · injection h with h; cases h
  · injection e with e1 e2 e3
    injection e1 with e1
    injection e1 with e1
    subst e1; subst e3; exact h
theorem OwnTRow.len {w : World} {B m n : Nat} {a : Option Addr} {cap : Nat} {f : Tms} (h : OwnTRow w B (.slice a m cap) n f) : m = n := by
  obtain ⟨a', c', e⟩ := h.row.form
  injection e
theorem ListAt.set1 {w : World} {B g m cap : Nat} {P : Pcs} {V : Nat → Value} (h : ListAt w B g m cap P V) {k j : Nat} (hk : k < m) (hj : j = 1 ∨ j = 2 ∨ j = 3) (x : Int) : ListAt (w.setCell ⟨g, k * 4 + j, none⟩ (.int .i64 x)) B g m cap (putP P k (pcSet (P k) j x)) V := by
  obtain ⟨h1, h2, h3, cur, hh, hs, hr⟩ := h
  refine ⟨h1, h2, h3, _, block_setCell hh (i := k * 4 + j) _, by simp [hs], fun i hi => ?_⟩
  obtain ⟨x0, x1, x2, x3⟩ := hr i hi
  by_cases e : i = k
  · subst e
    rw [putP_same]
    rcases hj with rfl | rfl | rfl
    all_goals
      refine ⟨?_, ?_, ?_, ?_⟩
      all_goals first
        | (simp only [Array.getElem?_setIfInBounds, if_true, pcSet]; rw [if_pos (by omega)])
        | (rw [Array.getElem?_setIfInBounds_ne (by omega)]; assumption)
  · rw [putP_other P _ e]
    refine ⟨?_, ?_, ?_, ?_⟩
    all_goals (rw [Array.getElem?_setIfInBounds_ne (by omega)]; assumption)
theorem ListAt.set0 {w : World} {B g m cap : Nat} {P : Pcs} {V : Nat → Value} (h : ListAt w B g m cap P V) {k : Nat} (hk : k < m) (u : Value) (n : Nat) (f : Slots) : ListAt (w.setCell ⟨g, k * 4, none⟩ u) B g m cap (putP P k { P k with n := n, f := f }) (putV V k u) := by
  obtain ⟨h1, h2, h3, cur, hh, hs, hr⟩ := h
  refine ⟨h1, h2, h3, _, block_setCell hh (i := k * 4) _, by simp [hs], fun i hi => ?_⟩
  obtain ⟨x0, x1, x2, x3⟩ := hr i hi
  by_cases e : i = k
  · subst e
    rw [putP_same, putV_same]
    refine ⟨?_, ?_, ?_, ?_⟩
    · simp only [Array.getElem?_setIfInBounds, if_true]; rw [if_pos (by omega)]
    all_goals (rw [Array.getElem?_setIfInBounds_ne (by omega)]; assumption)
  · rw [putP_other P _ e, putV_other V u e]
    refine ⟨?_, ?_, ?_, ?_⟩
    all_goals (rw [Array.getElem?_setIfInBounds_ne (by omega)]; assumption)

/-! ### the memory, opened -/
structure OpenMem (w : World) (B : Nat) (tv : Value) (pg pc : Nat) (V : Nat → Value) (M : Me) : Prop where
  t : OwnTRow w B tv M.tn M.t
  l : ListAt w B pg M.pn pc M.p V
  h : HeapsAt w B M.pn M.p V
theorem OpenMem.own {w : World} {B pg pc : Nat} {tv : Value} {V : Nat → Value} {M : Me} (h : OpenMem w B tv pg pc V M) : OwnMem w B tv (.slice (some ⟨pg, 0, none⟩) M.pn pc) M :=
  ⟨h.t, .inr ⟨pg, pc, V, rfl, h.l, h.h⟩⟩
theorem OwnMem.openP {w : World} {B : Nat} {tv pv : Value} {M : Me} (h : OwnMem w B tv pv M) {k : Nat} (hk : k < M.pn) : ∃ pg pc V, pv = .slice (some ⟨pg, 0, none⟩) M.pn pc ∧ OpenMem w B tv pg pc V M := by
  obtain ⟨ht, hp⟩ := h
  rcases hp with ⟨h0, _⟩ | ⟨g, cap, V, e, h1, h2⟩
  · omega
  · exact ⟨g, cap, V, e, ht, h1, h2⟩
theorem OpenMem.tms {w : World} {B pg pc : Nat} {tv : Value} {V : Nat → Value} {M : Me} (h : OpenMem w B tv pg pc V M) {k : Nat} (hk : k < M.tn) : ∃ tg tc, tv = .slice (some ⟨tg, 0, none⟩) M.tn tc ∧ OwnTAt w B tg M.tn tc M.t := by
  rcases h.t with ⟨h0, _⟩ | ⟨g, cap, e, h1⟩
  · omega
  · exact ⟨g, cap, e, h1⟩
theorem OwnMem.tms {w : World} {B : Nat} {tv pv : Value} {M : Me} (h : OwnMem w B tv pv M) {k : Nat} (hk : k < M.tn) : ∃ tg tc, tv = .slice (some ⟨tg, 0, none⟩) M.tn tc ∧ OwnTAt w B tg M.tn tc M.t := by
  rcases h.1 with ⟨h0, _⟩ | ⟨g, cap, e, h1⟩
  · omega
  · exact ⟨g, cap, e, h1⟩
theorem OpenMem.below {w w' : World} {B pg pc : Nat} {tv : Value} {V : Nat → Value} {M : Me} (h : OpenMem w B tv pg pc V M) (hb : Below w.heap.size w w') : OpenMem w' B tv pg pc V M :=
  ⟨h.t.below hb, h.l.below hb, h.h.below hb⟩
theorem ListAt.hh {w : World} {B g m cap : Nat} {P : Pcs} {V : Nat → Value} (h : ListAt w B g m cap P V) : ∃ cs : Array Value, w.heap[g]? = some (.cells cs 75 (0, 0)) := h.typed
theorem OpenMem.other {w w' : World} {B pg pc x : Nat} {tv : Value} {V : Nat → Value} {M : Me} {cx : Array Value} {tx : TypeId} (h : OpenMem w B tv pg pc V M) (hx : w.heap[x]? = some (.cells cx tx (0, 0)))
    (h1 : 70 ≠ tx) (h2 : 75 ≠ tx) (h3 : 94 ≠ tx) (e : ∀ y, y ≠ x → w'.heap[y]? = w.heap[y]?) : OpenMem w' B tv pg pc V M := by
  obtain ⟨cs, hcs⟩ := h.l.hh
  exact ⟨h.t.other hx h1 e, h.l.block (e pg (ne_ty hcs hx h2)), h.h.other (fun i hi y hy => e y (own_ne (h.h.1 i hi) hx h3 y hy))⟩
theorem OwnMem.other {w w' : World} {B x : Nat} {tv pv : Value} {M : Me} {cx : Array Value} {tx : TypeId} (h : OwnMem w B tv pv M) (hx : w.heap[x]? = some (.cells cx tx (0, 0)))
    (h1 : 70 ≠ tx) (h2 : 75 ≠ tx) (h3 : 94 ≠ tx) (e : ∀ y, y ≠ x → w'.heap[y]? = w.heap[y]?) : OwnMem w' B tv pv M := by
  refine ⟨h.1.other hx h1 e, ?_⟩
  rcases h.2 with h | ⟨g, cap, V, ev, hl, hh⟩
  · exact .inl h
  · obtain ⟨cs, hcs⟩ := hl.hh
    exact .inr ⟨g, cap, V, ev, hl.block (e g (ne_ty hcs hx h2)), hh.other (fun i hi y hy => e y (own_ne (hh.1 i hi) hx h3 y hy))⟩
theorem heap_set1 (w : World) (b o : Nat) (x : Value) : ∀ y, y ≠ b → (w.setCell ⟨b, o, none⟩ x).heap[y]? = w.heap[y]? := fun y hy => Below.heap_setCell w ⟨b, o, none⟩ x y hy

theorem OpenMem.setT {w : World} {n B pg pc g cap : Nat} {V : Nat → Value} {M : Me} (h : OpenMem w B (.slice (some ⟨g, 0, none⟩) n cap) pg pc V M) {k j : Nat} (hk : k < M.tn) (hj : j < 8) (x : Int) :
    OpenMem (w.setCell ⟨g, k * 8 + j, none⟩ (.int .i64 x)) B (.slice (some ⟨g, 0, none⟩) n cap) pg pc V (setTm M k j x) := by
  have hn := h.t.len
  subst hn
  have ht := h.t.at
  obtain ⟨cs, hcs⟩ := h.l.hh
  have hg : ∃ cur, w.heap[g]? = some (.cells cur 70 (0, 0)) := by obtain ⟨_, _, _, cur, hh, _⟩ := ht; exact ⟨cur, hh⟩
  obtain ⟨cur, hcur⟩ := hg
  exact ⟨(ht.set1 hk hj x).own, h.l.block (heap_set1 w g _ _ pg (ne_ty hcs hcur (by decide))), h.h.other (fun i hi y hy => heap_set1 w g _ _ y (own_ne (h.h.1 i hi) hcur (by decide) y hy))⟩
theorem OwnMem.setT {w : World} {n B g cap : Nat} {pv : Value} {M : Me} (h : OwnMem w B (.slice (some ⟨g, 0, none⟩) n cap) pv M) {k j : Nat} (hk : k < M.tn) (hj : j < 8) (x : Int) :
    OwnMem (w.setCell ⟨g, k * 8 + j, none⟩ (.int .i64 x)) B (.slice (some ⟨g, 0, none⟩) n cap) pv (setTm M k j x) := by
  have hn := h.1.len
  subst hn
  have ht := h.1.at
  have hg : ∃ cur, w.heap[g]? = some (.cells cur 70 (0, 0)) := by obtain ⟨_, _, _, cur, hh, _⟩ := ht; exact ⟨cur, hh⟩
  obtain ⟨cur, hcur⟩ := hg
  refine ⟨(ht.set1 hk hj x).own, ?_⟩
  rcases h.2 with h | ⟨pg, pc, V, ev, hl, hh⟩
  · exact .inl h
  · obtain ⟨cs, hcs⟩ := hl.hh
    exact .inr ⟨pg, pc, V, ev, hl.block (heap_set1 w g _ _ pg (ne_ty hcs hcur (by decide))), hh.other (fun i hi y hy => heap_set1 w g _ _ y (own_ne (hh.1 i hi) hcur (by decide) y hy))⟩
theorem OpenMem.setP {w : World} {B pg pc : Nat} {tv : Value} {V : Nat → Value} {M : Me} (h : OpenMem w B tv pg pc V M) {k j : Nat} (hk : k < M.pn) (hj : j = 1 ∨ j = 2 ∨ j = 3) (x : Int) :
    OpenMem (w.setCell ⟨pg, k * 4 + j, none⟩ (.int .i64 x)) B tv pg pc V (setPc M k j x) := by
  obtain ⟨cs, hcs⟩ := h.l.hh
  refine ⟨h.t.other hcs (by decide) (heap_set1 w pg _ _), h.l.set1 hk hj x, ?_⟩
  have hh := h.h.other (w' := w.setCell ⟨pg, k * 4 + j, none⟩ (.int .i64 x)) (fun i hi y hy => heap_set1 w pg _ _ y (own_ne (h.h.1 i hi) hcs (by decide) y hy))
  refine ⟨fun i hi => ?_, hh.2⟩
  have hi2 := hh.1 i hi
  show OwnRow _ B (V i) (putP M.p k (pcSet (M.p k) j x) i).n (putP M.p k (pcSet (M.p k) j x) i).f
  by_cases e : i = k
  · subst e
    rw [putP_same]
    rcases hj with rfl | rfl | rfl <;> exact hi2
  · rw [putP_other M.p _ e]; exact hi2
/-- another list of slots, in a block of its own -/
theorem OpenMem.setH {w : World} {B pg pc : Nat} {tv : Value} {V : Nat → Value} {M : Me} (h : OpenMem w B tv pg pc V M) {k n : Nat} {f : Slots} {u : Value} (hk : k < M.pn) (ho : OwnRow w B u n f)
    (hap : ∀ i, i < M.pn → i ≠ k → ∀ x, (V i).ownBlock = some x → u.ownBlock ≠ some x) :
    OpenMem (w.setCell ⟨pg, k * 4, none⟩ u) B tv pg pc (putV V k u) (setHp M k n f) := by
  obtain ⟨cs, hcs⟩ := h.l.hh
  refine ⟨h.t.other hcs (by decide) (heap_set1 w pg _ _), h.l.set0 hk u n f, ?_⟩
  have hh := h.h.other (w' := w.setCell ⟨pg, k * 4, none⟩ u) (fun i hi y hy => heap_set1 w pg _ _ y (own_ne (h.h.1 i hi) hcs (by decide) y hy))
  have hu : OwnRow (w.setCell ⟨pg, k * 4, none⟩ u) B u n f := by
    rcases ho with ho | ⟨x, cap, ev, hx⟩
    · exact .inl ho
    · refine .inr ⟨x, cap, ev, hx.block (heap_set1 w pg _ _ x ?_)⟩
      obtain ⟨_, _, _, cur', hh', _⟩ := hx
      exact ne_ty hh' hcs (by decide)
  refine ⟨fun i hi => ?_, fun i j hi hj hij x hx => ?_⟩
  · show OwnRow _ B (putV V k u i) (putP M.p k { M.p k with n := n, f := f } i).n (putP M.p k { M.p k with n := n, f := f } i).f
    by_cases e : i = k
    · subst e; rw [putP_same, putV_same]; exact hu
    · rw [putP_other M.p _ e, putV_other V u e]; exact hh.1 i hi
  · by_cases e : i = k
    · subst e
      rw [putV_same] at hx
      rw [putV_other V u (Ne.symm hij)]
      intro h2
      exact hap j hj (Ne.symm hij) x h2 hx
    · rw [putV_other V u e] at hx
      by_cases e2 : j = k
      · subst e2; rw [putV_same]; exact hap i hi e x hx
      · rw [putV_other V u e2]; exact h.h.2 i j hi hj hij x hx
/-- a list of slots that is newer than all the others -/
theorem OpenMem.setNew {w w' : World} {B pg pc : Nat} {tv : Value} {V : Nat → Value} {M : Me} (h : OpenMem w B tv pg pc V M) (hB : B ≤ w.heap.size) (hb : Below w.heap.size w w') {k n : Nat} {f : Slots} {u : Value} (hk : k < M.pn) (ho : OwnRow w' w.heap.size u n f) :
    OpenMem (w'.setCell ⟨pg, k * 4, none⟩ u) B tv pg pc (putV V k u) (setHp M k n f) := by
  refine (h.below hb).setH hk (ho.mono hB) (fun i hi _ x hx h2 => ?_)
  have h3 := (h.h.1 i hi).lt_size x hx
  rcases ho with ⟨_, rfl⟩ | ⟨y, cap, rfl, hy⟩
  · simp [Value.ownBlock] at h2
  · simp [Value.ownBlock] at h2
    subst h2
    have := hy.1
    omega

/-! ### what a call answers that works in a memory of its own -/
abbrev listsT : List TypeId := [70, 75, 94]
/-- written from B on, and of what there was only into lists of timers, of processors, of slots -/
structure Wk (B : Nat) (w w' : World) : Prop where
  below : Below B w w'
  keeps : KeepsBut listsT w w'
theorem Wk.refl (B : Nat) (w : World) : Wk B w w := ⟨Below.refl B w, KeepsBut.refl _ w⟩
theorem Wk.trans {B : Nat} {a b c : World} (h : Wk B a b) (k : Wk B b c) : Wk B a c := ⟨h.below.trans k.below, h.keeps.trans k.keeps⟩
theorem Wk.new {B : Nat} {a b c : World} (h : Wk B a b) (k : Below b.heap.size b c) (hB : B ≤ a.heap.size) : Wk B a c :=
  ⟨h.below.trans (k.mono (Nat.le_trans hB h.below.size)), h.keeps.trans (KeepsBut.of_below k)⟩
theorem Wk.of_new {B : Nat} {b c : World} (k : Below b.heap.size b c) (hB : B ≤ b.heap.size) : Wk B b c := ⟨k.mono hB, KeepsBut.of_below k⟩
theorem Wk.set {B : Nat} {a w : World} (h : Wk B a w) {g : Nat} {cs : Array Value} {t : TypeId} (hg : w.heap[g]? = some (.cells cs t (0, 0))) (hB : B ≤ g) (ht : t ∈ listsT) (o : Nat) (u : Value) : Wk B a (w.setCell ⟨g, o, none⟩ u) :=
  ⟨h.below.setCell (p := ⟨g, o, none⟩) hB u, h.keeps.set hg ht o u⟩
theorem Wk.setNew {B : Nat} {a w : World} (h : Wk B a w) {g : Nat} (hB : B ≤ a.heap.size) (hg : a.heap.size ≤ g) (o : Nat) (u : Value) : Wk B a (w.setCell ⟨g, o, none⟩ u) :=
  ⟨h.below.setCell (p := ⟨g, o, none⟩) (Nat.le_trans hB hg) u, fun x cs t hx ht => (Below.heap_setCell w ⟨g, o, none⟩ u x (by have := lt_of_block hx; show x ≠ g; omega)).trans (h.keeps x cs t hx ht)⟩
theorem Wk.setNew3 {B : Nat} {a w : World} (h : Wk B a w) {g : Nat} (hB : B ≤ a.heap.size) (hg : a.heap.size ≤ g) (x y z : Value) : Wk B a (((w.setCell ⟨g, 0, none⟩ x).setCell ⟨g, 1, none⟩ y).setCell ⟨g, 2, none⟩ z) :=
  ((h.setNew hB hg 0 x).setNew hB hg 1 y).setNew hB hg 2 z
theorem Wk.kept {B b : Nat} {w w' : World} (h : Wk B w w') {cs : Array Value} {t : TypeId} (hb : w.heap[b]? = some (.cells cs t (0, 0))) (ht : t ∉ listsT) : w'.heap[b]? = some (.cells cs t (0, 0)) := (h.keeps b cs t hb ht).trans hb
theorem OwnTAt.hh {w : World} {B g n cap : Nat} {f : Tms} (h : OwnTAt w B g n cap f) : ∃ cs : Array Value, w.heap[g]? = some (.cells cs 70 (0, 0)) := by
  obtain ⟨_, _, _, cur, hh, _⟩ := h
  exact ⟨cur, hh⟩
def InMe (B : Nat) (M : Me) (w : World) (e : Ending) (w' : World) : Prop := ∃ tv pv, e = .returned (meV M.c tv pv) ∧ OwnMem w' B tv pv M ∧ Wk B w w'
def InMeB (B : Nat) (M : Me) (b : Bool) (w : World) (e : Ending) (w' : World) : Prop := ∃ tv pv, e = .returned (.tuple #[meV M.c tv pv, .bool b]) ∧ OwnMem w' B tv pv M ∧ Wk B w w'
def InMeI (B : Nat) (M : Me) (i : Int) (w : World) (e : Ending) (w' : World) : Prop := ∃ tv pv, e = .returned (.tuple #[meV M.c tv pv, .int .i64 i]) ∧ OwnMem w' B tv pv M ∧ Wk B w w'

end Go.Proofs.Ytcfkginbkammoaa

/-
  The model's two sifts (spec, chapter 2): what each makes of a list.
-/
namespace Go.Proofs.Ytcfkginbkammoaa
open Go.RowKit Go.Joins
set_option linter.unusedVariables false

theorem raisedF_has {f : Slots} {n : Nat} {i : Int} (h : hasB n i = true) : raisedF f n i = raiseF f i.toNat := by simp [raisedF, h]
theorem raisedF_no {f : Slots} {n : Nat} {i : Int} (h : hasB n i = false) : raisedF f n i = f := by simp [raisedF, h]
theorem sunkF_has {f : Slots} {n : Nat} {i : Int} (h : hasB n i = true) : sunkF f n i = sinkF f n i.toNat := by simp [sunkF, h]
theorem sunkF_no {f : Slots} {n : Nat} {i : Int} (h : hasB n i = false) : sunkF f n i = f := by simp [sunkF, h]

end Go.Proofs.Ytcfkginbkammoaa

/-
  The model's PushedOn and PulledOff (spec, chapter 2).
-/
namespace Go.Proofs.Ytcfkginbkammoaa
open Go.RowKit Go.Joins
set_option linter.unusedVariables false

def pushedF (f : Slots) (n : Nat) (s : Int × Int) : Slots := if n < 30 then raiseF (putF f n s) n else f
def pushedN (n : Nat) : Nat := if n < 30 then n + 1 else n

/-- a call that makes a new list and says yes or no -/
def NewRowB (n : Nat) (f : Slots) (b : Bool) (w : World) (e : Ending) (w' : World) : Prop := ∃ v, e = .returned (.tuple #[v, .bool b]) ∧ OwnRow w' w.heap.size v n f ∧ Below w.heap.size w w'

/-! ### PulledOff -/
def pulledF (f : Slots) (n : Nat) (i : Int) : Slots :=
  if hasB n i then (if i < (n : Int) - 1 then sunkF (raisedF (putF f i.toNat (f (n - 1))) (n - 1) i) (n - 1) i else f) else f
def pulledN (n : Nat) (i : Int) : Nat := if hasB n i then n - 1 else n
def pulledS (f : Slots) (n : Nat) (i : Int) : Int × Int := if hasB n i then f i.toNat else (0, 0)

theorem pulledF_mid {f : Slots} {n k : Nat} (h : k < n - 1) : pulledF f n (k : Int) = sunkF (raisedF (putF f k (f (n - 1))) (n - 1) k) (n - 1) k := by
  rw [pulledF, if_pos (hasB_iff.2 ⟨by omega, by omega⟩), if_pos (by omega), Int.toNat_natCast]
theorem pulledF_last {f : Slots} {n k : Nat} (hk : k < n) (h : ¬ k < n - 1) : pulledF f n (k : Int) = f := by
  rw [pulledF, if_pos (hasB_iff.2 ⟨by omega, by omega⟩), if_neg (by omega)]
/-- a call that makes a new list, hands a slot back and says yes or no -/
def NewRowS (n : Nat) (f : Slots) (s : Int × Int) (b : Bool) (w : World) (e : Ending) (w' : World) : Prop := ∃ v, e = .returned (.tuple #[v, .agg #[.int .i64 s.1, .int .i64 s.2], .bool b]) ∧ OwnRow w' w.heap.size v n f ∧ Below w.heap.size w w'

end Go.Proofs.Ytcfkginbkammoaa

/-
  Tidying up, plainly (chapter 6): what a memory is behind it. No Go in sight.
-/
namespace Go.Proofs.Ytcfkginbkammoaa
open Go.RowKit Go.Joins
set_option linter.unusedVariables false

/-! ### the least one -/
def leastF (g : Nat → Bool) : Nat → Nat → Nat
  | 0, i => i
  | m + 1, i => if g i then i else leastF g m (i + 1)
theorem leastF_at {g : Nat → Bool} {i : Nat} (hg : g i = true) : ∀ m s, s ≤ i → i < s + m → (∀ j, s ≤ j → j < i → g j = false) → leastF g m s = i
  | 0, s, h1, h2, _ => by omega
  | m + 1, s, h1, h2, h => by
    rw [leastF]
    by_cases e : s = i
    · subst e; rw [hg]; rfl
    · rw [h s (Nat.le_refl _) (by omega)]
      exact leastF_at hg m (s + 1) (by omega) (by omega) (fun j h3 h4 => h j (by omega) h4)
theorem leastF_none {g : Nat → Bool} : ∀ m s, (∀ j, s ≤ j → j < s + m → g j = false) → leastF g m s = s + m
  | 0, s, _ => rfl
  | m + 1, s, h => by
    rw [leastF, h s (Nat.le_refl _) (by omega)]
    exact (leastF_none m (s + 1) (fun j h3 h4 => h j (by omega) (by omega))).trans (by omega)

/-! ### what is done to a memory -/
def pullM (M : Me) (k : Nat) (i : Int) : Me := setHp M k (pulledN (M.p k).n i) (pulledF (M.p k).f (M.p k).n i)
def pushM (M : Me) (t k : Nat) : Me := setHp (setTm (setTm M t 4 (k : Int)) t 0 1) k (pushedN (M.p k).n) (pushedF (M.p k).f (M.p k).n ((t : Int), (M.t t).wh))
theorem pullM_d (M : Me) (k : Nat) (i : Int) : ((pullM M k i).p k).d = (M.p k).d := by unfold pullM; rw [setHp_at]
def dropM (M : Me) (k i t : Nat) : Me := setPc (setTm (setTm (pullM M k (i : Int)) t 0 7) t 4 (-1)) k 3 ((M.p k).d - 1)
/-- is it to be tidied? -/
def todoB (t : Tm) : Bool := t.st == 5 || (t.st == 3 || t.st == 4)
/-- the timer of a slot -/
def slotT (M : Me) (k i : Nat) : Nat := ((M.p k).f i).1.toNat
def tidyI (M : Me) (k : Nat) : Nat := leastF (fun i => todoB (M.t (slotT M k i))) (M.p k).n 0
def tidiedB (M : Me) (k : Nat) : Bool := decide (tidyI M k < (M.p k).n)
/-- comes elsewhere in its heap -/
def moveM (M : Me) (k i t : Nat) : Me := pushM (pullM (setTm M t 1 (M.t t).nx) k (i : Int)) t k
def tidyAtM (M : Me) (k i : Nat) : Me := if (M.t (slotT M k i)).st = 5 then dropM M k i (slotT M k i) else moveM M k i (slotT M k i)
def tidiedM (M : Me) (k : Nat) : Me := if tidiedB M k then tidyAtM M k (tidyI M k) else setPc M k 2 (-1)
theorem tidied_at {M : Me} {k i : Nat} (hi : i < (M.p k).n) (hg : todoB (M.t (slotT M k i)) = true) (h : ∀ j, j < i → todoB (M.t (slotT M k j)) = false) : tidiedB M k = true ∧ tidiedM M k = tidyAtM M k i := by
  have e : tidyI M k = i := leastF_at (g := fun i => todoB (M.t (slotT M k i))) hg _ 0 (Nat.zero_le _) (by omega) (fun j _ h2 => h j h2)
  have e2 : tidiedB M k = true := by rw [tidiedB, e]; simpa using hi
  exact ⟨e2, by rw [tidiedM, if_pos e2, e]⟩
theorem tidied_none {M : Me} {k : Nat} (h : ∀ j, j < (M.p k).n → todoB (M.t (slotT M k j)) = false) : tidiedB M k = false ∧ tidiedM M k = setPc M k 2 (-1) := by
  have e : tidyI M k = 0 + (M.p k).n := leastF_none (g := fun i => todoB (M.t (slotT M k i))) _ 0 (fun j _ h2 => h j (by omega))
  have e2 : tidiedB M k = false := by rw [tidiedB, e]; simp
  exact ⟨e2, by rw [tidiedM, e2]; rfl⟩
theorem tidied_of {M : Me} {k : Nat} (h : tidiedB M k = true) : tidyI M k < (M.p k).n ∧ todoB (M.t (slotT M k (tidyI M k))) = true := by
  have h1 : tidyI M k < (M.p k).n := by simpa [tidiedB] using h
  refine ⟨h1, ?_⟩
  cases hc : todoB (M.t (slotT M k (tidyI M k))) with
  | true => rfl
  | false =>
    exfalso
    by_cases hx : ∃ j, j < (M.p k).n ∧ todoB (M.t (slotT M k j)) = true ∧ ∀ i, i < j → todoB (M.t (slotT M k i)) = false
    · obtain ⟨j, hj, hg, hm⟩ := hx
      have e : tidyI M k = j := leastF_at (g := fun i => todoB (M.t (slotT M k i))) hg _ 0 (Nat.zero_le _) (by omega) (fun i _ h2 => hm i h2)
      rw [e, hg] at hc
      cases hc
    · have hall : ∀ j, j < (M.p k).n → todoB (M.t (slotT M k j)) = false := by
        intro j
        induction j using Nat.strongRecOn with
        | _ j ih =>
          intro hj
          cases hc2 : todoB (M.t (slotT M k j)) with
          | false => rfl
          | true => exact absurd ⟨j, hj, hc2, fun i hi => ih i hi (by omega)⟩ hx
      have := (tidied_none hall).1
      rw [h] at this
      cases this
def armedB (M : Me) (t : Nat) : Bool := (M.t t).st == 2 && (M.t t).pl == -1
def armedM (M : Me) (t k : Nat) : Me := if armedB M t then pushM M t k else M
def rungB (M : Me) (k : Nat) : Bool := decide (0 < (M.p k).n) && ((M.t (slotT M k 0)).st == 1 && decide ((M.t (slotT M k 0)).wh ≤ M.c))
def rungM (M : Me) (k : Nat) : Me := if rungB M k then setTm M (slotT M k 0) 0 6 else M
def rungI (M : Me) (k : Nat) : Int := if rungB M k then (slotT M k 0 : Int) else -1
/-- how many Periods later -/
def timesI (c : Int) (t : Tm) : Int := if t.wh < c then 1 + (c - t.wh) / t.pe else 1
def nextI (c : Int) (t : Tm) : Int := minI (t.wh + t.pe * timesI c t) 1000000000
def rearmedB (M : Me) (t : Nat) : Bool := (M.t t).st == 6
def outM (M : Me) (t : Nat) : Me := pullM M (M.t t).pl.toNat (findFrom (M.p (M.t t).pl.toNat).f (M.p (M.t t).pl.toNat).n (t : Int) 0)
def rearmM (M : Me) (t : Nat) : Me := if (M.t t).pe = 0 then setTm (setTm (outM M t) t 0 0) t 4 (-1) else pushM (setTm (outM M t) t 1 (nextI M.c (M.t t))) t (M.t t).pl.toNat
def rearmedM (M : Me) (t : Nat) : Me := if rearmedB M t then rearmM M t else M
theorem times_bound {c : Int} {t : Tm} (hc : 0 ≤ c ∧ c ≤ 1000000000) (hw : 0 ≤ t.wh ∧ t.wh ≤ 1000000000) (hp : 0 < t.pe ∧ t.pe ≤ 1000000000) : 1 ≤ timesI c t ∧ timesI c t ≤ 1000000001 ∧ 0 ≤ t.pe * timesI c t ∧ t.pe * timesI c t ≤ 2000000000 := by
  unfold timesI
  split
  · have h1 : 0 ≤ (c - t.wh) / t.pe := Int.ediv_nonneg (by omega) (by omega)
    have h2 : t.pe * ((c - t.wh) / t.pe) ≤ c - t.wh := Int.mul_ediv_self_le (by omega)
    have h3 : (c - t.wh) / t.pe ≤ c - t.wh := Int.ediv_le_self _ (by omega)
    have h4 : t.pe * (1 + (c - t.wh) / t.pe) = t.pe + t.pe * ((c - t.wh) / t.pe) := by rw [Int.mul_add, Int.mul_one]
    have h5 : 0 ≤ t.pe * ((c - t.wh) / t.pe) := Int.mul_nonneg (by omega) h1
    rw [h4]
    omega
  · omega

/-! ### what a right memory tells -/
structure MemFacts (a b c : Int) (M : Me) : Prop where
  plan : planB a b c = true
  pn : (M.pn : Int) = a ∧ 1 ≤ a ∧ a ≤ 6
  tn : M.tn ≤ 30
  clock : 0 ≤ M.c ∧ M.c ≤ 999999999
  n : ∀ k, k < M.pn → (M.p k).n ≤ 30
  d : ∀ k, k < M.pn → 0 ≤ (M.p k).d ∧ (M.p k).d ≤ (M.p k).n
  slot : ∀ k, k < M.pn → ∀ i, i < (M.p k).n → ((M.p k).f i).1 = (slotT M k i : Int) ∧ slotT M k i < M.tn ∧ (M.t (slotT M k i)).pl = (k : Int) ∧ (M.t (slotT M k i)).wh = ((M.p k).f i).2
  tm : ∀ i, i < M.tn → timerB a b c (M.t i) = true
theorem slots_at {M : Me} {k e : Int} {f : Slots} : ∀ {n : Nat}, slotsOkB M k e f n = true → ∀ i, i < n → slotOkB M k (f i) = true
  | 0, _, i, hi => absurd hi (Nat.not_lt_zero _)
  | n + 1, h, i, hi => by
    rw [slotsOkB, Bool.and_eq_true, Bool.and_eq_true] at h
    by_cases e' : i = n
    · subst e'; exact h.2.1
    · exact slots_at h.1 i (by omega)
theorem memFacts {a b c : Int} {M : Me} (h : memOkB a b c M = true) : MemFacts a b c M := by
  simp only [memOkB, Bool.and_eq_true] at h
  obtain ⟨hp, hc, ht, hn, ha, hf⟩ := h
  have hp2 := planB_iff.1 hp
  have hc2 := inB_iff.1 hc
  have ht2 : (M.tn : Int) ≤ c := by simpa using ht
  have hn2 : (M.pn : Int) = a := by simpa using hn
  have hag : ∀ k, k < M.pn → agreeB a b c M k = true := fun k hk => allB_at ha k hk
  refine ⟨hp, ⟨hn2, hp2.1⟩, by omega, hc2, fun k hk => ?_, fun k hk => ?_, fun k hk i hi => ?_, fun i hi => ?_⟩
  · have := hag k hk
    simp only [agreeB, procOkB, Bool.and_eq_true, heapB, decide_eq_true_eq] at this
    exact this.1.2.1.2
  · have := hag k hk
    simp only [agreeB, procOkB, Bool.and_eq_true] at this
    exact inB_iff.1 this.1.2.2.2.2.1
  · have := hag k hk
    simp only [agreeB, Bool.and_eq_true] at this
    have hs := slots_at this.2.1 i hi
    simp only [slotOkB, Bool.and_eq_true] at hs
    have h1 := hasT_iff.1 hs.1
    have e : ((M.p k).f i).1 = (slotT M k i : Int) := by unfold slotT; omega
    exact ⟨e, by omega, by simpa [slotT] using hs.2.1, by simpa [slotT] using hs.2.2⟩
  · have := allB_at hf i hi
    simp only [fitB, Bool.and_eq_true] at this
    exact this.1
theorem slotsP_bound {P : Pcs} {x : Nat} : ∀ m, (∀ k, k < m → (P k).n ≤ x) → slotsP P m ≤ m * x
  | 0, _ => by simp [slotsP]
  | m + 1, h => by
    have h1 := slotsP_bound m (fun k hk => h k (by omega))
    have h2 := h m (by omega)
    rw [slotsP, Nat.succ_mul]
    omega
theorem sizeM_small {M : Me} (h1 : M.tn ≤ 30) (h2 : M.pn ≤ 6) (h3 : ∀ k, k < M.pn → (M.p k).n ≤ 31) : sizeM M ≤ 1048576 := by
  have h4 := slotsP_bound M.pn h3
  have h5 : M.pn * 31 ≤ 6 * 31 := Nat.mul_le_mul_right _ h2
  unfold sizeM
  omega
/-- no more than one slot more -/
structure Near (M N : Me) : Prop where
  tn : N.tn = M.tn
  pn : N.pn = M.pn
  c : N.c = M.c
  n : ∀ k, (N.p k).n ≤ (M.p k).n + 1
theorem Near.refl (M : Me) : Near M M := ⟨rfl, rfl, rfl, fun k => Nat.le_succ _⟩
theorem Near.size {a b c : Int} {M N : Me} (h : Near M N) (hf : MemFacts a b c M) : sizeM N ≤ 1048576 := by
  have := hf.pn
  refine sizeM_small (by rw [h.tn]; exact hf.tn) (by rw [h.pn]; omega) (fun k hk => ?_)
  have h1 := h.n k
  have h2 := hf.n k (by rw [← h.pn]; exact hk)
  omega
theorem setTm_p (M : Me) (t j : Nat) (x : Int) (k : Nat) : ((setTm M t j x).p k).n = (M.p k).n := rfl
theorem setPc_n (M : Me) (t j : Nat) (x : Int) (k : Nat) : ((setPc M t j x).p k).n = (M.p k).n := by
  by_cases e : k = t
  · subst e
    rw [setPc_at]
    match j with
    | 0 => rfl
    | 1 => rfl
    | 2 => rfl
    | 3 => rfl
    | j + 4 => rfl
  · rw [setPc_ne M j x e]
theorem pullM_n (M : Me) (t : Nat) (i : Int) (k : Nat) : ((pullM M t i).p k).n ≤ (M.p k).n := by
  unfold pullM
  by_cases e : k = t
  · subst e; rw [setHp_at]; unfold pulledN; split <;> simp
  · rw [setHp_ne M _ _ e]; exact Nat.le_refl _
theorem pushM_n (M : Me) (t x k : Nat) : ((pushM M t x).p k).n ≤ (M.p k).n + 1 := by
  unfold pushM
  by_cases e : k = x
  · subst e; rw [setHp_at]; show pushedN (M.p k).n ≤ (M.p k).n + 1; unfold pushedN; split <;> omega
  · rw [setHp_ne _ _ _ e]; exact Nat.le_succ _
theorem near_tidied (M : Me) (k : Nat) : Near M (tidiedM M k) := by
  unfold tidiedM
  split
  · unfold tidyAtM
    split
    · refine ⟨rfl, rfl, rfl, fun x => ?_⟩
      unfold dropM
      rw [setPc_n, setTm_p, setTm_p]
      exact Nat.le_trans (pullM_n _ _ _ _) (Nat.le_succ _)
    · refine ⟨rfl, rfl, rfl, fun x => ?_⟩
      unfold moveM
      exact Nat.le_trans (pushM_n _ _ _ _) (Nat.succ_le_succ (pullM_n _ _ _ _))
  · exact ⟨rfl, rfl, rfl, fun x => by rw [setPc_n]; exact Nat.le_succ _⟩
theorem near_armed (M : Me) (t k : Nat) : Near M (armedM M t k) := by
  unfold armedM
  split
  · exact ⟨rfl, rfl, rfl, fun x => pushM_n _ _ _ _⟩
  · exact Near.refl M
theorem near_rung (M : Me) (k : Nat) : Near M (rungM M k) := by
  unfold rungM
  split
  · exact ⟨rfl, rfl, rfl, fun x => Nat.le_succ _⟩
  · exact Near.refl M
theorem near_rearmed (M : Me) (t : Nat) : Near M (rearmedM M t) := by
  unfold rearmedM
  split
  · unfold rearmM
    split
    · exact ⟨rfl, rfl, rfl, fun x => Nat.le_trans (pullM_n _ _ _ _) (Nat.le_succ _)⟩
    · exact ⟨rfl, rfl, rfl, fun x => Nat.le_trans (pushM_n _ _ _ _) (Nat.succ_le_succ (pullM_n _ _ _ _))⟩
  · exact Near.refl M
/-- a running timer has a place -/
theorem running_at {a b c : Int} {M : Me} (hf : MemFacts a b c M) {t : Nat} (ht : t < M.tn) (h : (M.t t).st = 6) : ∃ k, k < M.pn ∧ (M.t t).pl = (k : Int) := by
  have h1 := hf.tm t ht
  simp only [timerB, placeB, Bool.and_eq_true] at h1
  have hp := h1.2.2.2.2.2.2.2.2.1
  have hin : inHeapB (M.t t).st = true := by rw [h]; rfl
  rw [hin] at hp
  simp only [if_true] at hp
  have h2 := (procB_iff.1 hp).2
  have h3 := hf.pn.1
  exact ⟨(M.t t).pl.toNat, by omega, by omega⟩
theorem times_at {a b c : Int} {M : Me} (hf : MemFacts a b c M) {t : Nat} (ht : t < M.tn) : (0 ≤ (M.t t).st ∧ (M.t t).st ≤ 7) ∧ (0 ≤ (M.t t).wh ∧ (M.t t).wh ≤ 1000000000) ∧ (0 ≤ (M.t t).nx ∧ (M.t t).nx ≤ 1000000000) ∧ (0 ≤ (M.t t).pe ∧ (M.t t).pe ≤ 1000000000) := by
  have h1 := hf.tm t ht
  simp only [timerB, Bool.and_eq_true] at h1
  exact ⟨inB_iff.1 h1.2.1, inB_iff.1 h1.2.2.1, inB_iff.1 h1.2.2.2.1, inB_iff.1 h1.2.2.2.2.1⟩
/-- the first slot of a timer that is to be tidied is the first one that is to be tidied -/
theorem find_todo {M : Me} {k i : Nat} (hids : ∀ j, j < (M.p k).n → ((M.p k).f j).1 = (slotT M k j : Int)) (hi : i < (M.p k).n) (hg : todoB (M.t (slotT M k i)) = true) (h : ∀ j, j < i → todoB (M.t (slotT M k j)) = false) :
    ∀ m s, s + m = i → findFrom (M.p k).f (M.p k).n (slotT M k i : Int) s = (i : Int)
  | 0, s, e => by
    have e : s = i := by omega
    subst e
    exact findFrom_here hi (hids s hi)
  | m + 1, s, e => by
    have hs : s < (M.p k).n := by omega
    rw [findFrom_next hs (fun e2 => by
      rw [hids s hs] at e2
      have e3 : slotT M k s = slotT M k i := by omega
      have := h s (by omega)
      rw [e3, hg] at this
      cases this)]
    exact find_todo hids hi hg h m (s + 1) (by omega)

end Go.Proofs.Ytcfkginbkammoaa

/-
  Tidying up (chapter 6): what the four functions answer, plainly.
-/
namespace Go.Proofs.Ytcfkginbkammoaa
open Go.RowKit Go.Joins
set_option linter.unusedVariables false

def NewMeB (M : Me) (q : Bool) (w : World) (e : Ending) (w' : World) : Prop := ∃ tv pv, e = .returned (.tuple #[meV M.c tv pv, .bool q]) ∧ OwnMem w' w.heap.size tv pv M ∧ Below w.heap.size w w'
def NewMeI (M : Me) (q : Int) (w : World) (e : Ending) (w' : World) : Prop := ∃ tv pv, e = .returned (.tuple #[meV M.c tv pv, .int .i64 q]) ∧ OwnMem w' w.heap.size tv pv M ∧ Below w.heap.size w w'
def timerOkM (a b c d : Int) (M : Me) : Bool := memOkB a b c M && hasT M d
def placeOkM (a b c d : Int) (M : Me) : Bool := memOkB a b c M && procB a b c d
def bothOkM (a b c d e : Int) (M : Me) : Bool := memOkB a b c M && (hasT M d && procB a b c e)
def armedG (a b c d e : Int) (M : Me) : Me := if bothOkM a b c d e M then armedM M d.toNat e.toNat else me0
def armedQ (a b c d e : Int) (M : Me) : Bool := bothOkM a b c d e M && armedB M d.toNat
def tidiedG (a b c d : Int) (M : Me) : Me := if placeOkM a b c d M then tidiedM M d.toNat else me0
def tidiedQ (a b c d : Int) (M : Me) : Bool := placeOkM a b c d M && tidiedB M d.toNat
def rungG (a b c d : Int) (M : Me) : Me := if placeOkM a b c d M then rungM M d.toNat else me0
def rungQ (a b c d : Int) (M : Me) : Int := if placeOkM a b c d M then rungI M d.toNat else -1
def rearmedG (a b c d : Int) (M : Me) : Me := if timerOkM a b c d M then rearmedM M d.toNat else me0
def rearmedQ (a b c d : Int) (M : Me) : Bool := timerOkM a b c d M && rearmedB M d.toNat
theorem timerOk_of {a b c d : Int} {M : Me} (h : timerOkM a b c d M = true) : MemFacts a b c M ∧ ∃ t : Nat, d = (t : Int) ∧ d.toNat = t ∧ t < M.tn := by
  rw [timerOkM, Bool.and_eq_true] at h
  have h2 := hasT_iff.1 h.2
  exact ⟨memFacts h.1, d.toNat, by omega, rfl, by omega⟩
theorem placeOk_of {a b c d : Int} {M : Me} (h : placeOkM a b c d M = true) : MemFacts a b c M ∧ ∃ k : Nat, d = (k : Int) ∧ d.toNat = k ∧ k < M.pn := by
  rw [placeOkM, Bool.and_eq_true] at h
  have h1 := memFacts h.1
  have h2 := (procB_iff.1 h.2).2
  have h3 := h1.pn.1
  exact ⟨h1, d.toNat, by omega, rfl, by omega⟩
theorem bothOk_of {a b c d e : Int} {M : Me} (h : bothOkM a b c d e M = true) : MemFacts a b c M ∧ (∃ t : Nat, d = (t : Int) ∧ d.toNat = t ∧ t < M.tn) ∧ ∃ k : Nat, e = (k : Int) ∧ e.toNat = k ∧ k < M.pn := by
  rw [bothOkM, Bool.and_eq_true, Bool.and_eq_true] at h
  exact ⟨memFacts h.1, (timerOk_of (b := b) (by rw [timerOkM, h.1, h.2.1]; rfl)).2, (placeOk_of (by rw [placeOkM, h.1, h.2.2]; rfl)).2⟩
theorem sizeM_zero : sizeM me0 ≤ 1048576 := by decide
theorem armedG_size (a b c d e : Int) {M : Me} (h : sizeM M ≤ 1048576) : sizeM (armedG a b c d e M) ≤ 1048576 := by
  unfold armedG
  split
  · rename_i h; exact (near_armed M _ _).size (bothOk_of h).1
  · exact sizeM_zero
theorem tidiedG_size (a b c d : Int) {M : Me} (h : sizeM M ≤ 1048576) : sizeM (tidiedG a b c d M) ≤ 1048576 := by
  unfold tidiedG
  split
  · rename_i h; exact (near_tidied M _).size (placeOk_of h).1
  · exact sizeM_zero
theorem rungG_size (a b c d : Int) {M : Me} (h : sizeM M ≤ 1048576) : sizeM (rungG a b c d M) ≤ 1048576 := by
  unfold rungG
  split
  · rename_i h; exact (near_rung M _).size (placeOk_of h).1
  · exact sizeM_zero
theorem rearmedG_size (a b c d : Int) {M : Me} (h : sizeM M ≤ 1048576) : sizeM (rearmedG a b c d M) ≤ 1048576 := by
  unfold rearmedG
  split
  · rename_i h; exact (near_rearmed M _).size (timerOk_of h).1
  · exact sizeM_zero

end Go.Proofs.Ytcfkginbkammoaa
