/-
  Structs of plain numbers, opened and shut: any number of fields. (No number of the program's but that of int64.)
-/
import Derived.Test.YtpgfffmojcaocaaL00
import Derived.Lib.SmallJoins
import Derived.DataShut
import Derived.Laws.MakeOwn
import Derived.BigQuiet
namespace Go.Proofs.Ytpgfffmojcaocaa
open Go.ChangeShapes Go.WideShapes Go.ChangeAt Go.RowKit Go.Joins
set_option linter.unusedVariables false

/-- every field is a number, and lies in one cell -/
def flatF (I : TypeId) (fs : Array Field) : Bool := (List.range fs.size).all fun i => match fs[i]? with
  | some f => f.offset == i && f.type == I
  | none => false
theorem flatF_at {I : TypeId} {fs : Array Field} (h : flatF I fs = true) {i : Nat} {f : Field} (hf : fs[i]? = some f) : f.offset = i ∧ f.type = I := by
  have hi : i < fs.size := (Array.getElem?_eq_some_iff.1 hf).1
  have := List.all_eq_true.1 h i (List.mem_range.2 hi)
  rw [hf] at this
  simpa using this

abbrev numsV (zs : List Int) : List Value := zs.map fun z => .int .i64 z
abbrev numsD {H : Type} (zs : List Int) : List (DataW H) := zs.map fun z => .lit (.int .i64 z)

theorem flat_list {H : Type} {enc : TypeId × Value → H} {P : Program} {w : World} {base n : Nat} {sp : Nat → Bool} {hd : Bool} {I : TypeId} (hI : P.underlying I = some (.int .i64)) :
    ∀ (cs : List Value) (xs : List (DataW H × List MemPlace)), xs.length = cs.length → (∀ (i : Nat) (c : Value), cs[i]? = some c → DataW.trod enc P w base sp hd n I [c] = xs[i]?) →
      ∃ zs : List Int, cs = numsV zs ∧ xs = zs.map (fun z => (.lit (.int .i64 z), [])) ∧ ∀ z ∈ zs, (Lit.int .i64 z).wf = true
  | [], [], _, _ => ⟨[], rfl, rfl, fun _ h => by cases h⟩
  | [], _ :: _, h, _ => by simp at h
  | _ :: _, [], h, _ => by simp at h
  | c :: cs, x :: xs, h, hf => by
    obtain ⟨z, e1, e2, hw⟩ := DataW.trod_int hI (hf 0 c rfl)
    obtain ⟨zs, h1, h2, h3⟩ := flat_list hI cs xs (by simpa using h) (fun i d hd => by simpa using hf (i + 1) d (by simpa using hd))
    simp at e1
    refine ⟨z :: zs, by rw [e1, h1]; rfl, by rw [e2, h2]; rfl, fun y hy => ?_⟩
    rcases List.mem_cons.1 hy with rfl | hy
    · exact hw
    · exact h3 y hy

/-- such a struct's cells, opened -/
theorem trod_flat {H : Type} {enc : TypeId × Value → H} {P : Program} {w : World} {base fuel : Nat} {sp : Nat → Bool} {hd : Bool} {t I : TypeId} {fs : Array Field} {cs : List Value} {x : DataW H × List MemPlace}
    (ht : P.underlying t = some (.struct fs)) (hf : flatF I fs = true) (hI : P.underlying I = some (.int .i64)) (hc : P.cellsOf I = 1) (hC : P.cellsOf t = fs.size) (h : DataW.trod enc P w base sp hd fuel t cs = some x) :
    ∃ zs : List Int, zs.length = fs.size ∧ cs = numsV zs ∧ x = (.agg (numsD zs), []) ∧ ∀ z ∈ zs, (Lit.int .i64 z).wf = true := by
  obtain ⟨xs, n, _, rfl, hl, hlen, hx⟩ := DataW.trod_struct ht h
  obtain ⟨zs, h1, h2, h3⟩ := flat_list (enc := enc) (w := w) (base := base) (sp := sp) (hd := hd) (n := n) hI cs xs (by omega) (fun i c hc' => by
    have hi : i < cs.length := (List.getElem?_eq_some_iff.1 hc').1
    obtain ⟨f, hfi⟩ : ∃ f, fs[i]? = some f := ⟨fs[i]'(by omega), Array.getElem?_eq_getElem (by omega)⟩
    obtain ⟨e1, e2⟩ := flatF_at hf hfi
    have hq := hx i f hfi
    rw [e1, e2, hc] at hq
    rw [← hq]
    congr 1
    rw [List.drop_eq_getElem_cons hi]
    have := List.getElem?_eq_getElem hi
    rw [this] at hc'
    injection hc' with hc'
    simp [hc'])
  refine ⟨zs, by rw [h1] at hl; simpa [hC] using hl, h1, ?_, h3⟩
  rw [h2]
  simp [numsD, Function.comp_def]

/-- and shut -/
theorem trod_flat_mk {H : Type} {enc : TypeId × Value → H} {P : Program} {w : World} {base n : Nat} {sp : Nat → Bool} {hd : Bool} {t I : TypeId} {fs : Array Field} {zs : List Int}
    (ht : P.underlying t = some (.struct fs)) (hf : flatF I fs = true) (hI : P.underlying I = some (.int .i64)) (hc : P.cellsOf I = 1) (hC : P.cellsOf t = fs.size) (hl : zs.length = fs.size) (hw : ∀ z ∈ zs, (Lit.int .i64 z).wf = true) :
    DataW.trod enc P w base sp hd (n + 2) t (numsV zs) = some (.agg (numsD zs), []) := by
  have hm := trod_struct_mk (enc := enc) (w := w) (base := base) (spare := sp) (held := hd) (n := n + 1) (cs := numsV zs) (xs := zs.map (fun z => (.lit (.int .i64 z), []))) ht (by simp [hC, hl])
    (mapM_some_of_get _ _ (by simp [hl]) fun i f hfi => by
      have hfi : fs[i]? = some f := by simpa using hfi
      have hi : i < fs.size := (Array.getElem?_eq_some_iff.1 hfi).1
      obtain ⟨e1, e2⟩ := flatF_at hf hfi
      rw [e1, e2, hc]
      have hi2 : i < zs.length := by omega
      have hd1 : (List.drop i (numsV zs)).take 1 = [.int .i64 zs[i]] := by
        rw [List.drop_eq_getElem_cons (by simpa using hi2)]
        simp
      rw [hd1]
      rw [List.getElem?_map, List.getElem?_eq_getElem hi2]
      simp only [Option.map_some]
      have hz := hw zs[i] (List.getElem_mem hi2)
      unfold DataW.trod
      rw [hI]
      simp [hz])
  rw [hm]
  simp [numsD, Function.comp_def]

theorem open_flat {H : Type} {enc : TypeId × Value → H} {P : Program} {w : World} {b0 base : Nat} {sp : Nat → Bool} {hd : Bool} {r : Reach} {t I : TypeId} {fs : Array Field} {v : Value} {d : DataW H} {p : List MemPlace}
    (ht : P.underlying t = some (.struct fs)) (hf : flatF I fs = true) (hI : P.underlying I = some (.int .i64)) (hc : P.cellsOf I = 1) (hC : P.cellsOf t = fs.size)
    (hv : Value.okWide P w r b0 t v) (h : DataW.Trod enc P w base sp hd t v d p) :
    ∃ zs : List Int, zs.length = fs.size ∧ v = .agg (numsV zs).toArray ∧ d = .agg (numsD zs) ∧ p = [] ∧ ∀ z ∈ zs, (Lit.int .i64 z).wf = true := by
  obtain ⟨cs, rfl, hsz⟩ := okWide_struct ht hv
  obtain ⟨fuel, h⟩ := h
  obtain ⟨zs, h1, h2, h3, h4⟩ := trod_flat ht hf hI hc hC h
  simp only [Prod.mk.injEq] at h3
  refine ⟨zs, h1, ?_, h3.1, h3.2, h4⟩
  have : cs.toList = numsV zs := by simpa [Value.cells] using h2
  rw [← this]
theorem shut_flat {H : Type} {enc : TypeId × Value → H} {P : Program} {w : World} {base : Nat} {sp : Nat → Bool} {hd : Bool} {t I : TypeId} {fs : Array Field} {zs : List Int}
    (ht : P.underlying t = some (.struct fs)) (hf : flatF I fs = true) (hI : P.underlying I = some (.int .i64)) (hc : P.cellsOf I = 1) (hC : P.cellsOf t = fs.size) (hl : zs.length = fs.size) (hw : ∀ z ∈ zs, (Lit.int .i64 z).wf = true) :
    DataW.Trod enc P w base sp hd t (.agg (numsV zs).toArray) (.agg (numsD zs)) [] :=
  ⟨2, by simpa [Value.cells] using trod_flat_mk (n := 0) ht hf hI hc hC hl hw⟩
theorem eight {zs : List Int} (h : zs.length = 8) : ∃ a b c d e f g k, zs = [a, b, c, d, e, f, g, k] := by
  match zs, h with
  | [a, b, c, d, e, f, g, k], _ => exact ⟨a, b, c, d, e, f, g, k, rfl⟩

end Go.Proofs.Ytpgfffmojcaocaa

/-
  The exact laws on timers, told what the program's own functions answer.
-/
namespace Go.Proofs.Ytpgfffmojcaocaa
open Go.ChangeShapes Go.WideShapes Go.ChangeAt Go.RowKit Go.Joins
set_option linter.unusedVariables false

/-- what the program's TimerOk, InHeap are to answer -/
def AsksT (fn : FuncId) : Prop := ∀ (a b c : Int) (t : Tm) (w : World), Calls Try.prog fn #[.agg #[.int .i64 a, .int .i64 b, .int .i64 c], tmV t] w fun e w' => e = .returned (.bool (timerB a b c t)) ∧ Below w.heap.size w w'
def AsksS (fn : FuncId) : Prop := ∀ (s : Int) (w : World), Calls Try.prog fn #[.int .i64 s] w fun e w' => e = .returned (.bool (inHeapB s)) ∧ Below w.heap.size w w'

set_option maxHeartbeats 400000 in
theorem toTimer_any (t : Tm) (w : World) :
    Calls Try.prog 37 #[tmV t] w fun e w' => e = .returned (tmV t) ∧ Below w.heap.size w w' := by
  go_enter Try.func37, Try.ntmps37
  go_wp2
  exact bodyPost_ret (v := tmV t) (by simp [results, Try.results37, go_sem]) rfl ⟨rfl, (((Below.refl _ _).alloc (Nat.le_refl _) _).alloc (by simp) _).alloc (by simp; omega) _⟩
theorem spTimerOk_any (a b c : Int) (t : Tm) (w : World) :
    Calls Try.prog 34 #[.agg #[.int .i64 a, .int .i64 b, .int .i64 c], tmV t] w fun e w' => e = .returned (.bool (timerB a b c t)) ∧ Below w.heap.size w w' :=
  spTimerOk_eight a b c t.st t.wh t.nx t.pe t.pl t.ge t.ki t.ma w

theorem cellsPlanLaw : Try.prog.cellsOf 23 = 3 := by kernel_rfl
set_option maxRecDepth 100000 in
/-- a plan of three numbers, opened -/
theorem open_plan {H : Type} {enc : TypeId × Value → H} {W : World} {base : Nat} {sp : Nat → Bool} {hd : Bool} {v : Value} {d : DataW H} {p : List MemPlace}
    (hv : Value.okWide Try.prog W .any base 23 v) (h : DataW.Trod enc Try.prog W 0 sp hd 23 v d p) :
    ∃ a b c : Int, v = .agg #[.int .i64 a, .int .i64 b, .int .i64 c] ∧ d = .agg (numsD [a, b, c]) ∧ p = [] ∧ ∀ z ∈ [a, b, c], (Lit.int .i64 z).wf = true := by
  obtain ⟨zs, hl, rfl, rfl, rfl, hw⟩ := open_flat Try.underlying23 (I := 2) (by kernel_rfl) Try.underlying2 (by kernel_rfl) (by kernel_rfl) hv h
  match zs, hl with
  | [a, b, c], _ => exact ⟨a, b, c, rfl, rfl, rfl, hw⟩
set_option maxRecDepth 100000 in
theorem shut_plan {H : Type} {enc : TypeId × Value → H} {a b c : Int} (hw : ∀ z ∈ [a, b, c], (Lit.int .i64 z).wf = true) (W' : World) (n : Nat) (sp : Nat → Bool) (hd : Bool) :
    DataW.Trod enc Try.prog W' n sp hd 23 (.agg #[.int .i64 a, .int .i64 b, .int .i64 c]) (.agg (numsD [a, b, c])) [] :=
  shut_flat (zs := [a, b, c]) Try.underlying23 (I := 2) (by kernel_rfl) Try.underlying2 (by kernel_rfl) (by kernel_rfl) rfl hw
abbrev tmL (t : Tm) : List Int := [t.st, t.wh, t.nx, t.pe, t.pl, t.ge, t.ki, t.ma]
set_option maxRecDepth 100000 in
theorem open_timer {H : Type} {enc : TypeId × Value → H} {W : World} {base : Nat} {sp : Nat → Bool} {hd : Bool} {v : Value} {d : DataW H} {p : List MemPlace}
    (hv : Value.okWide Try.prog W .any base 76 v) (h : DataW.Trod enc Try.prog W 0 sp hd 76 v d p) :
    ∃ t : Tm, v = tmV t ∧ d = .agg (numsD (tmL t)) ∧ p = [] ∧ ∀ z ∈ tmL t, (Lit.int .i64 z).wf = true := by
  obtain ⟨zs, hl, rfl, rfl, rfl, hw⟩ := open_flat Try.underlying76 (I := 2) (by kernel_rfl) Try.underlying2 (by kernel_rfl) (by kernel_rfl) hv h
  match zs, hl with
  | [a, b, c, d, e, f, g, k], _ => exact ⟨⟨a, b, c, d, e, f, g, k⟩, rfl, rfl, rfl, hw⟩
set_option maxRecDepth 100000 in
theorem shut_timer {H : Type} {enc : TypeId × Value → H} {t : Tm} (hw : ∀ z ∈ tmL t, (Lit.int .i64 z).wf = true) (W' : World) (n : Nat) (sp : Nat → Bool) (hd : Bool) :
    DataW.Trod enc Try.prog W' n sp hd 76 (tmV t) (.agg (numsD (tmL t))) [] :=
  shut_flat (zs := tmL t) Try.underlying76 (I := 2) (by kernel_rfl) Try.underlying2 (by kernel_rfl) (by kernel_rfl) rfl hw

/-! ### FnExactTimerOk -/
/-! ### FnExactInHeap -/
end Go.Proofs.Ytpgfffmojcaocaa

/-
  The laws' own helpers on lists of timers: measured, copied out of the law's argument, compared.
-/
namespace Go.Proofs.Ytpgfffmojcaocaa
open Go.RowKit Go.Joins
set_option linter.unusedVariables false

/-- a timer's eight cells in the midst of a list -/
theorem cells8 {w : World} {b o : Nat} {t : Tm} (h : ∀ j, j < 8 → w.cell? ⟨b, o + j, none⟩ = some (.int .i64 (tmAt t j))) :
    w.cell? ⟨b, o, none⟩ = some (.int .i64 t.st) ∧ w.cell? ⟨b, o + 1, none⟩ = some (.int .i64 t.wh) ∧ w.cell? ⟨b, o + 2, none⟩ = some (.int .i64 t.nx) ∧ w.cell? ⟨b, o + 3, none⟩ = some (.int .i64 t.pe) ∧ w.cell? ⟨b, o + 4, none⟩ = some (.int .i64 t.pl) ∧ w.cell? ⟨b, o + 5, none⟩ = some (.int .i64 t.ge) ∧ w.cell? ⟨b, o + 6, none⟩ = some (.int .i64 t.ki) ∧ w.cell? ⟨b, o + 7, none⟩ = some (.int .i64 t.ma) :=
  ⟨h 0 (by decide), h 1 (by decide), h 2 (by decide), h 3 (by decide), h 4 (by decide), h 5 (by decide), h 6 (by decide), h 7 (by decide)⟩

set_option maxHeartbeats 400000 in
theorem szTimerS_is {v : Value} {n : Nat} (hv : ∃ a cap, v = .slice a n cap) (left : Int) (w : World) (h0 : 0 ≤ left) (h1 : left ≤ 1048576) (hm : n ≤ maxLen) :
    Calls Try.prog 12 #[v, .int .i64 left] w fun e w' => e = .returned (.int .i64 (if left < (n : Int) then -1 else left - n)) ∧ w = w' := by
  obtain ⟨a, cap, rfl⟩ := hv
  unfold maxLen at hm
  by_cases h : left < (n : Int)
  · rw [if_pos h]
    go_enter Try.func12, Try.ntmps12
    go_wp2
    go_ret
    exact ⟨rfl, rfl⟩
  · rw [if_neg h]
    go_enter Try.func12, Try.ntmps12
    go_wp2
    go_ret
    exact ⟨rfl, rfl⟩

set_option maxHeartbeats 1000000 in
theorem eqTimer_same (t : Tm) (w : World) :
    Calls Try.prog 47 #[tmV t, tmV t] w fun e w' => e = .returned (.bool true) ∧ Below w.heap.size w w' := by
  go_enter Try.func47, Try.ntmps47
  go_wp2
  go_ret
  exact ⟨rfl, ((Below.refl _ _).alloc (Nat.le_refl _) _).alloc (by simp) _⟩

/-! ### copied -/
theorem timer_info : (Try.prog.info? 66).map (fun i => (i.zero, i.size, i.bytes)) = some (some (.agg #[.int .i64 0, .int .i64 0, .int .i64 0, .int .i64 0, .int .i64 0, .int .i64 0, .int .i64 0, .int .i64 0]), 8, 64) := by kernel_rfl
def tm0 : Tm := ⟨0, 0, 0, 0, 0, 0, 0, 0⟩
theorem madeT_zero (n i j : Nat) (hi : i < n) (hj : j < 8) : (madeCells #[.int .i64 0, .int .i64 0, .int .i64 0, .int .i64 0, .int .i64 0, .int .i64 0, .int .i64 0, .int .i64 0] (n * 8))[i * 8 + j]? = some (.int .i64 (tmAt tm0 j)) := by
  rw [Array.getElem?_eq_getElem (by rw [size_madeCells]; omega)]
  have hm : (i * 8 + j) % 8 = j := by omega
  simp [madeCells, hm]
  revert j
  apply below8 <;> intros <;> rfl
theorem ownT_made (w : World) (n : Nat) (hn : n ≤ maxLen) : OwnTAt (w.alloc (.cells (madeCells #[.int .i64 0, .int .i64 0, .int .i64 0, .int .i64 0, .int .i64 0, .int .i64 0, .int .i64 0, .int .i64 0] (n * 8)) 66)) w.heap.size w.heap.size n n (fun _ => tm0) :=
  ⟨Nat.le_refl _, Nat.le_refl _, hn, _, heap_alloc_new w _, size_madeCells _ _, fun i hi j hj => madeT_zero n i j hi hj⟩
theorem run_make_timers (n : Nat) (hn : n ≤ 1048576) : ∀ w : World, (Instr.makeSlice 29 (.int .i64 (n : Int)) (.int .i64 (n : Int))).run Try.prog w = .ok (.slice (some ⟨w.heap.size, 0, none⟩) n n) (w.alloc (.cells (madeCells #[.int .i64 0, .int .i64 0, .int .i64 0, .int .i64 0, .int .i64 0, .int .i64 0, .int .i64 0, .int .i64 0] (n * 8)) 66)) := by
  intro w
  obtain ⟨i0, hi, hz, hs, hby⟩ := info_parts timer_info
  have hr := run_make (P := Try.prog) w 29 66 i0 _ Try.underlying29 hi hz .i64 .i64 (n : Int) (n : Int) (by omega) (by omega) (by rw [hby]; omega) (by omega)
  rw [hs] at hr
  simp only [Int.toNat_natCast] at hr
  exact hr
def upToT (f : Tms) (k : Nat) : Tms := fun i => if i < k then f i else tm0
theorem upToT_put {f : Tms} {k n : Nat} : ∀ i, i < n → putT (upToT f k) k (f k) i = upToT f (k + 1) i := by
  intro i _
  unfold putT upToT
  by_cases e : i = k
  · subst e; simp
  · rw [if_neg e]
    by_cases h : i < k
    · rw [if_pos h, if_pos (by omega)]
    · rw [if_neg h, if_neg (by omega)]
/-- a call that makes a new list of timers -/
def NewTRow (n : Nat) (f : Tms) (w : World) (e : Ending) (w' : World) : Prop := ∃ v, e = .returned v ∧ OwnTRow w' w.heap.size v n f ∧ Below w.heap.size w w'

set_option maxRecDepth 100000 in
set_option maxHeartbeats 1000000 in
theorem toTimerS_any {v : Value} {n : Nat} {f : Tms} {w : World} (hn : n ≤ 1048576) (h : RowTAt w v n f) :
    Calls Try.prog 18 #[v] w (NewTRow n f w) := by
  have hmk := run_make_timers n hn
  have hO := ownT_made w n (by unfold maxLen; omega)
  have hb0 := (Below.refl w.heap.size w).alloc (Nat.le_refl _) (.cells (madeCells #[.int .i64 0, .int .i64 0, .int .i64 0, .int .i64 0, .int .i64 0, .int .i64 0, .int .i64 0, .int .i64 0] (n * 8)) 66)
  rcases h with ⟨h0, a, cap, hv⟩ | ⟨b, off, cap, rfl, hl, hc⟩
  · obtain rfl : v = .slice a n cap := by rw [hv, h0]
    have HO := Lib.hid (hO.congr (f' := f) (fun i hi => by omega))
    have HB := Lib.hid hb0
    have H0 := Lib.hid h0
    clear hO hb0 hv h0
    go_enter Try.func18, Try.ntmps18
    go_wp2
    go_loopw [4] (fun i wr => i = .int .i64 0 ∧ OwnTAt wr w.heap.size w.heap.size n n f ∧ Below w.heap.size w wr) (fun _ _ => 0)
    case atStart => exact ⟨rfl, HO.out, HB.out⟩
    case round =>
      obtain ⟨rfl, hOk, hbk⟩ := hrel
      have h1 : ¬ (0 : Int) < (n : Int) := by have := H0.out; omega
      have h2 : ¬ 0 < n := by have := H0.out; omega
      go_wp2
      go_ret
      exact ⟨_, rfl, hOk.own, hbk⟩
  · have H := Lib.hid hc
    have HO := Lib.hid (hO.congr (f' := upToT f 0) (fun i hi => by simp [upToT]))
    have HB := Lib.hid hb0
    clear hc hO hb0
    go_enter Try.func18, Try.ntmps18
    go_wp2
    go_loopw [4] (fun i wr => ∃ k : Nat, k ≤ n ∧ i = .int .i64 k ∧ OwnTAt wr w.heap.size w.heap.size n n (upToT f k) ∧ Below w.heap.size w wr) (fun i _ => n - (intOf i).toNat)
    case atStart => exact ⟨0, Nat.zero_le _, rfl, HO.out, HB.out⟩
    case round =>
      obtain ⟨k, hk, rfl, hOk, hbk⟩ := hrel
      by_cases hlt : k < n
      · obtain ⟨c0, c1, c2, c3, c4, c5, c6, c7⟩ := cells8 (w := wr) (b := b) (o := off + k * 8) (t := f k) (fun j hj => (hbk.cell (p := ⟨b, off + k * 8 + j, none⟩) hl).trans (H.out k hlt j hj))
        have h1 : (k : Int) < (n : Int) := by omega
        go_wp2_with fail
        go_at_call 37; refine (toTimer_any (f k) _).mono ?_; rintro e w1 ⟨rfl, hb1⟩
        have hO1 := hOk.below hb1
        have hbk1 := btrans hbk hb1
        have fr := hO1.free
        have f0 := fr (k * 8); have f1 := fr (k * 8 + 1); have f2 := fr (k * 8 + 2); have f3 := fr (k * 8 + 3); have f4 := fr (k * 8 + 4); have f5 := fr (k * 8 + 5); have f6 := fr (k * 8 + 6); have f7 := fr (k * 8 + 7)
        obtain ⟨d0, d1, d2, d3, d4, d5, d6, d7⟩ := cells8 (w := w1) (b := w.heap.size) (o := k * 8) (t := upToT f k k) (hO1.cells hlt)
        have hOn := (hO1.put hlt (f k)).congr (upToT_put (f := f))
        have kn : Below w.heap.size w (setT w1 w.heap.size k (f k)) := (((((((hbk1.setCell (p := ⟨w.heap.size, k * 8, none⟩) (Nat.le_refl _) _).setCell (p := ⟨w.heap.size, k * 8 + 1, none⟩) (Nat.le_refl _) _).setCell (p := ⟨w.heap.size, k * 8 + 2, none⟩) (Nat.le_refl _) _).setCell (p := ⟨w.heap.size, k * 8 + 3, none⟩) (Nat.le_refl _) _).setCell (p := ⟨w.heap.size, k * 8 + 4, none⟩) (Nat.le_refl _) _).setCell (p := ⟨w.heap.size, k * 8 + 5, none⟩) (Nat.le_refl _) _).setCell (p := ⟨w.heap.size, k * 8 + 6, none⟩) (Nat.le_refl _) _).setCell (p := ⟨w.heap.size, k * 8 + 7, none⟩) (Nat.le_refl _) _
        clear hb1 fr c0 c1 c2 c3 c4 c5 c6 c7 hOk hbk hO1 hbk1
        go_wp2
        exact ⟨⟨k + 1, by omega, by go_num, hOn, kn⟩, by simp only [intOf]; omega⟩
      · have hkn : k = n := by omega
        subst hkn
        go_wp2
        go_ret
        exact ⟨_, rfl, (hOk.congr (fun i hi => by simp [upToT, hi])).own, hbk⟩

end Go.Proofs.Ytpgfffmojcaocaa

/-
  The laws' own helpers on lists of timers, second part: compared, marked, looked at again.
-/
namespace Go.Proofs.Ytpgfffmojcaocaa
open Go.RowKit Go.Joins
set_option linter.unusedVariables false

set_option maxRecDepth 100000 in
set_option maxHeartbeats 2000000 in
theorem eqTimerS_same {v1 v2 : Value} {n : Nat} {f : Tms} {w : World} (hn : n ≤ 1048576) (h1 : RowTAt w v1 n f) (h2 : RowTAt w v2 n f) :
    Calls Try.prog 24 #[v1, v2] w fun e w' => e = .returned (.bool true) ∧ Below w.heap.size w w' := by
  by_cases h0 : n = 0
  · obtain ⟨a1, k1, rfl⟩ := h1.form
    obtain ⟨a2, k2, rfl⟩ := h2.form
    have H0 := Lib.hid h0
    clear h0 h1 h2
    go_enter Try.func24, Try.ntmps24
    go_wp2
    go_loop [5] (fun i => i = .int .i64 0) (fun _ => 0)
    case atStart => rfl
    case round =>
      subst hrel
      have h1 : ¬ (0 : Int) < (n : Int) := by have := H0.out; omega
      have h2 : ¬ 0 < n := by have := H0.out; omega
      go_wp2
      go_ret
      exact ⟨rfl, Below.refl _ _⟩
  · rcases h1 with ⟨h1, _⟩ | ⟨b1, o1, c1, rfl, hl1, hc1⟩
    · exact absurd h1 h0
    rcases h2 with ⟨h2, _⟩ | ⟨b2, o2, c2, rfl, hl2, hc2⟩
    · exact absurd h2 h0
    have H1 := Lib.hid hc1
    have H2 := Lib.hid hc2
    clear hc1 hc2 h0
    go_enter Try.func24, Try.ntmps24
    go_wp2
    go_loopw [5] (fun i wr => ∃ k : Nat, k ≤ n ∧ i = .int .i64 k ∧ Below w.heap.size w wr) (fun i _ => n - (intOf i).toNat)
    case atStart => exact ⟨0, Nat.zero_le _, rfl, Below.refl _ _⟩
    case round =>
      obtain ⟨k, hk, rfl, hbk⟩ := hrel
      by_cases hlt : k < n
      · have far : ∀ wz : World, Below w.heap.size w wz → wz.cell? ⟨b1, o1 + k * 8, none⟩ = some (.int .i64 (f k).st) ∧ wz.cell? ⟨b1, o1 + k * 8 + 1, none⟩ = some (.int .i64 (f k).wh) ∧ wz.cell? ⟨b1, o1 + k * 8 + 2, none⟩ = some (.int .i64 (f k).nx) ∧ wz.cell? ⟨b1, o1 + k * 8 + 3, none⟩ = some (.int .i64 (f k).pe) ∧ wz.cell? ⟨b1, o1 + k * 8 + 4, none⟩ = some (.int .i64 (f k).pl) ∧ wz.cell? ⟨b1, o1 + k * 8 + 5, none⟩ = some (.int .i64 (f k).ge) ∧ wz.cell? ⟨b1, o1 + k * 8 + 6, none⟩ = some (.int .i64 (f k).ki) ∧ wz.cell? ⟨b1, o1 + k * 8 + 7, none⟩ = some (.int .i64 (f k).ma) ∧ wz.cell? ⟨b2, o2 + k * 8, none⟩ = some (.int .i64 (f k).st) ∧ wz.cell? ⟨b2, o2 + k * 8 + 1, none⟩ = some (.int .i64 (f k).wh) ∧ wz.cell? ⟨b2, o2 + k * 8 + 2, none⟩ = some (.int .i64 (f k).nx) ∧ wz.cell? ⟨b2, o2 + k * 8 + 3, none⟩ = some (.int .i64 (f k).pe) ∧ wz.cell? ⟨b2, o2 + k * 8 + 4, none⟩ = some (.int .i64 (f k).pl) ∧ wz.cell? ⟨b2, o2 + k * 8 + 5, none⟩ = some (.int .i64 (f k).ge) ∧ wz.cell? ⟨b2, o2 + k * 8 + 6, none⟩ = some (.int .i64 (f k).ki) ∧ wz.cell? ⟨b2, o2 + k * 8 + 7, none⟩ = some (.int .i64 (f k).ma) := fun wz hz => by
          obtain ⟨x0, x1, x2, x3, x4, x5, x6, x7⟩ := cells8 (w := wz) (b := b1) (o := o1 + k * 8) (t := f k) (fun j hj => (hz.cell (p := ⟨b1, o1 + k * 8 + j, none⟩) hl1).trans (H1.out k hlt j hj))
          obtain ⟨y0, y1, y2, y3, y4, y5, y6, y7⟩ := cells8 (w := wz) (b := b2) (o := o2 + k * 8) (t := f k) (fun j hj => (hz.cell (p := ⟨b2, o2 + k * 8 + j, none⟩) hl2).trans (H2.out k hlt j hj))
          exact ⟨x0, x1, x2, x3, x4, x5, x6, x7, y0, y1, y2, y3, y4, y5, y6, y7⟩
        have FAR := Lib.hid far
        clear far
        have i1 : (k : Int) < (n : Int) := by omega
        have i0 : (0 : Int) ≤ (k : Int) := by omega
        have kd := hbk.drew
        go_wp2
        go_region_held3 (fun w' => w'.cell? ⟨b1, o1 + k * 8, none⟩ = some (.int .i64 (f k).st) ∧ w'.cell? ⟨b1, o1 + k * 8 + 1, none⟩ = some (.int .i64 (f k).wh) ∧ w'.cell? ⟨b1, o1 + k * 8 + 2, none⟩ = some (.int .i64 (f k).nx) ∧ w'.cell? ⟨b1, o1 + k * 8 + 3, none⟩ = some (.int .i64 (f k).pe) ∧ w'.cell? ⟨b1, o1 + k * 8 + 4, none⟩ = some (.int .i64 (f k).pl) ∧ w'.cell? ⟨b1, o1 + k * 8 + 5, none⟩ = some (.int .i64 (f k).ge) ∧ w'.cell? ⟨b1, o1 + k * 8 + 6, none⟩ = some (.int .i64 (f k).ki) ∧ w'.cell? ⟨b1, o1 + k * 8 + 7, none⟩ = some (.int .i64 (f k).ma) ∧ w'.cell? ⟨b2, o2 + k * 8, none⟩ = some (.int .i64 (f k).st) ∧ w'.cell? ⟨b2, o2 + k * 8 + 1, none⟩ = some (.int .i64 (f k).wh) ∧ w'.cell? ⟨b2, o2 + k * 8 + 2, none⟩ = some (.int .i64 (f k).nx) ∧ w'.cell? ⟨b2, o2 + k * 8 + 3, none⟩ = some (.int .i64 (f k).pe) ∧ w'.cell? ⟨b2, o2 + k * 8 + 4, none⟩ = some (.int .i64 (f k).pl) ∧ w'.cell? ⟨b2, o2 + k * 8 + 5, none⟩ = some (.int .i64 (f k).ge) ∧ w'.cell? ⟨b2, o2 + k * 8 + 6, none⟩ = some (.int .i64 (f k).ki) ∧ w'.cell? ⟨b2, o2 + k * 8 + 7, none⟩ = some (.int .i64 (f k).ma))
          (first | exact FAR.out _ kd | go_keep)
          (first
            | (go_at_call 47; refine (eqTimer_same (f k) _).mono ?_; rintro e w1 ⟨rfl, hb1⟩
               replace kd := btrans kd hb1))
        go_wp2
        exact ⟨⟨k + 1, by omega, by go_num, kd⟩, by simp only [intOf]; omega⟩
      · go_wp2
        go_ret
        exact ⟨rfl, hbk⟩

/-! ### marked, and looked at again -/
def markTm (m : Int) : Tm := ⟨m, m + 1, m + 1 + 1, m + 1 + 1 + 1, m + 1 + 1 + 1 + 1, m + 1 + 1 + 1 + 1 + 1, m + 1 + 1 + 1 + 1 + 1 + 1, m + 1 + 1 + 1 + 1 + 1 + 1 + 1⟩
def markT (f : Tms) (m : Int) (k : Nat) : Tms := fun i => if i < k then markTm (m + 8 * i) else f i
theorem markT_zero (f : Tms) (m : Int) : markT f m 0 = f := by funext i; simp [markT]
theorem markT_put {f : Tms} {m : Int} {k : Nat} (n : Nat) : ∀ i, i < n → putT (markT f m k) k (markTm (m + 8 * k)) i = markT f m (k + 1) i := by
  intro i _
  unfold putT markT
  by_cases e : i = k
  · subst e; simp
  · rw [if_neg e]
    by_cases h : i < k
    · rw [if_pos h, if_pos (by omega)]
    · rw [if_neg h, if_neg (by omega)]
theorem markT_at (f : Tms) (m : Int) {n k : Nat} (h : k < n) : markT f m n k = markTm (m + 8 * k) := by simp [markT, h]

/-- a call that marks a list of the law's own -/
def MarkedT (B g n cap : Nat) (f : Tms) (m : Int) (w : World) (e : Ending) (w' : World) : Prop :=
  e = .returned (.int .i64 (m + 8 * n)) ∧ OwnTAt w' B g n cap (markT f m n) ∧ w.grownBy w' (some g)

set_option maxRecDepth 100000 in
set_option maxHeartbeats 2000000 in
theorem markTimerS_any {B g n cap : Nat} {f : Tms} {w : World} (m : Int) (hm0 : 0 ≤ m) (hm1 : m ≤ 16777216) (hn : n ≤ 1048576) (h : OwnTAt w B g n cap f) :
    Calls Try.prog 26 #[.slice (some ⟨g, 0, none⟩) n cap, .int .i64 m] w (MarkedT B g n cap f m w) := by
  have H := Lib.hid h
  clear h
  go_enter Try.func26, Try.ntmps26
  go_wp2
  go_loopw [1, 5] (fun q i wr => ∃ k : Nat, k ≤ n ∧ i = .int .i64 k ∧ q = .int .i64 (m + 8 * k) ∧ OwnTAt wr B g n cap (markT f m k) ∧ w.grownBy wr (some g)) (fun _ i _ => n - (intOf i).toNat)
  case atStart => exact ⟨0, Nat.zero_le _, rfl, congrArg (Value.int .i64) (by omega), by rw [markT_zero]; exact H.out, g_refl _ _⟩
  case round =>
    obtain ⟨k, hk, rfl, rfl, hOk, hgk⟩ := hrel
    by_cases hlt : k < n
    · have fr := hOk.free
      have f0 := fr (k * 8); have f1 := fr (k * 8 + 1); have f2 := fr (k * 8 + 2); have f3 := fr (k * 8 + 3); have f4 := fr (k * 8 + 4); have f5 := fr (k * 8 + 5); have f6 := fr (k * 8 + 6); have f7 := fr (k * 8 + 7)
      obtain ⟨d0, d1, d2, d3, d4, d5, d6, d7⟩ := cells8 (w := wr) (b := g) (o := k * 8) (t := markT f m k k) (hOk.cells hlt)
      have i1 : (k : Int) < (n : Int) := by omega
      have i2 : (k : Int) ≤ 1048576 := by omega
      have hOn := (hOk.put hlt (markTm (m + 8 * k))).congr (markT_put (f := f) (m := m) n)
      have hgn : w.grownBy (setT wr g k (markTm (m + 8 * k))) (some g) := g_own (g_own (g_own (g_own (g_own (g_own (g_own (g_own hgk _ _) _ _) _ _) _ _) _ _) _ _) _ _) _ _
      clear fr hOk hgk
      go_wp2
      exact ⟨⟨k + 1, by omega, by go_num, congrArg (Value.int .i64) (by omega), hOn, hgn⟩, by simp only [intOf]; omega⟩
    · have hkn : k = n := by omega
      subst hkn
      go_wp2
      go_ret
      exact ⟨rfl, hOk, hgk⟩

set_option maxRecDepth 100000 in
set_option maxHeartbeats 2000000 in
theorem heldTimerS_any {v : Value} {n : Nat} {f : Tms} {w : World} (m : Int) (hm0 : 0 ≤ m) (hm1 : m ≤ 16777216) (hn : n ≤ 1048576) (h : RowTAt w v n (markT f m n)) :
    Calls Try.prog 28 #[v, .int .i64 m] w fun e w' => e = .returned (.int .i64 (m + 8 * n)) ∧ w = w' := by
  rcases h with ⟨h0, a, cap, hv⟩ | ⟨b, off, cap, rfl, hl, hc⟩
  · obtain rfl : v = .slice a n cap := by rw [hv, h0]
    have H0 := Lib.hid h0
    clear hv h0
    go_enter Try.func28, Try.ntmps28
    go_wp2
    go_loop [1, 5] (fun q i => i = .int .i64 0 ∧ q = .int .i64 m) (fun _ _ => 0)
    case atStart => exact ⟨rfl, rfl⟩
    case round =>
      obtain ⟨rfl, rfl⟩ := hrel
      have h1 : ¬ (0 : Int) < (n : Int) := by have := H0.out; omega
      have h2 : ¬ 0 < n := by have := H0.out; omega
      have h3 : m = m + 8 * (n : Int) := by have := H0.out; omega
      have H3 := Lib.hid h3
      clear h3
      go_wp2
      go_ret
      exact ⟨ret_i64 H3.out, rfl⟩
  · have H := Lib.hid hc
    clear hc
    go_enter Try.func28, Try.ntmps28
    go_wp2
    go_loop [1, 5] (fun q i => ∃ k : Nat, k ≤ n ∧ i = .int .i64 k ∧ q = .int .i64 (m + 8 * k)) (fun _ i => n - (intOf i).toNat)
    case atStart => exact ⟨0, Nat.zero_le _, rfl, congrArg (Value.int .i64) (by omega)⟩
    case round =>
      obtain ⟨k, hk, rfl, rfl⟩ := hrel
      by_cases hlt : k < n
      · obtain ⟨d0, d1, d2, d3, d4, d5, d6, d7⟩ := cells8 (w := w) (b := b) (o := off + k * 8) (t := ⟨m + 8 * k, m + 8 * k + 1, m + 8 * k + 1 + 1, m + 8 * k + 1 + 1 + 1, m + 8 * k + 1 + 1 + 1 + 1, m + 8 * k + 1 + 1 + 1 + 1 + 1, m + 8 * k + 1 + 1 + 1 + 1 + 1 + 1, m + 8 * k + 1 + 1 + 1 + 1 + 1 + 1 + 1⟩) (fun j hj => (H.out k hlt j hj).trans (by rw [markT_at f m hlt]; rfl))
        have i1 : (k : Int) < (n : Int) := by omega
        have i2 : (k : Int) ≤ 1048576 := by omega
        go_wp2
        exact ⟨⟨k + 1, by omega, by go_num, congrArg (Value.int .i64) (by omega)⟩, by simp only [intOf]; omega⟩
      · have hkn : k = n := by omega
        subst hkn
        go_wp2
        go_ret
        exact ⟨rfl, rfl⟩

end Go.Proofs.Ytpgfffmojcaocaa

/-
  A memory: its clock, its timers, its processors: read in a range of blocks, or made by the call itself.
-/
namespace Go.Proofs.Ytpgfffmojcaocaa
open Go.RowKit Go.Joins
set_option linter.unusedVariables false

structure Me where
  c : Int
  tn : Nat
  t : Tms
  pn : Nat
  p : Pcs
abbrev meV (c : Int) (tv pv : Value) : Value := .agg #[.int .i64 c, tv, pv]
/-- how much the laws count of it -/
def sizeM (M : Me) : Nat := M.tn + (M.pn + slotsP M.p M.pn)
theorem sizeM_le {M : Me} (h : sizeM M ≤ 1048576) : M.tn ≤ 1048576 ∧ M.pn ≤ 1048576 ∧ slotsP M.p M.pn ≤ 1048576 ∧ ∀ i, i < M.pn → (M.p i).n ≤ 1048576 := by
  unfold sizeM at h
  exact ⟨by omega, by omega, by omega, fun i hi => by have := slotsP_le M.p hi; omega⟩

/-- the blocks from B on and before C are as they were -/
def Same (B C : Nat) (w w' : World) : Prop := ∀ k, B ≤ k → k < C → w'.heap[k]? = w.heap[k]?
theorem Same.of_below {B C n : Nat} {w w' : World} (h : Below n w w') (hC : C ≤ n) : Same B C w w' := fun k _ hk => h.block k (by omega)
theorem Same.of_mid_lo {B C D E : Nat} {w w' : World} (h : Mid D E w w') (hC : C ≤ D) (hw : C ≤ w.heap.size) : Same B C w w' := fun k _ hk => h.block k (by omega) (.inl (by omega))
theorem Same.of_mid_hi {B C D E : Nat} {w w' : World} (h : Mid D E w w') (hB : E ≤ B) (hw : C ≤ w.heap.size) : Same B C w w' := fun k h1 hk => h.block k (by omega) (.inr (by omega))
theorem Same.trans {B C : Nat} {a b c : World} (h : Same B C a b) (k : Same B C b c) : Same B C a c := fun i h1 h2 => (k i h1 h2).trans (h i h1 h2)
theorem Same.cell {B C : Nat} {w w' : World} (h : Same B C w w') {b : Nat} (h1 : B ≤ b) (h2 : b < C) (o : Nat) : w'.cell? ⟨b, o, none⟩ = w.cell? ⟨b, o, none⟩ := by
  unfold World.cell?
  rw [h b h1 h2]

/-! ### read in a range -/
def RowR (w : World) (B C : Nat) (v : Value) (n : Nat) (f : Slots) : Prop :=
  (n = 0 ∧ ∃ a cap, v = .slice a 0 cap) ∨ ∃ b off cap, v = .slice (some ⟨b, off, none⟩) n cap ∧ B ≤ b ∧ b < C ∧
    ∀ i, i < n → w.cell? ⟨b, off + i * 2, none⟩ = some (.int .i64 (f i).1) ∧ w.cell? ⟨b, off + i * 2 + 1, none⟩ = some (.int .i64 (f i).2)
theorem RowAt.range {w : World} {v : Value} {n : Nat} {f : Slots} (h : RowAt w v n f) : RowR w 0 w.heap.size v n f := by
  rcases h with h | ⟨b, off, cap, e, hl, hc⟩
  · exact .inl h
  · exact .inr ⟨b, off, cap, e, Nat.zero_le _, hl, hc⟩
theorem RowR.row {w : World} {B C n : Nat} {v : Value} {f : Slots} (h : RowR w B C v n f) (hC : C ≤ w.heap.size) : RowAt w v n f := by
  rcases h with h | ⟨b, off, cap, e, _, hl, hc⟩
  · exact .inl h
  · exact .inr ⟨b, off, cap, e, by omega, hc⟩
theorem RowR.keep {w w' : World} {B C n : Nat} {v : Value} {f : Slots} (h : RowR w B C v n f) (hs : Same B C w w') : RowR w' B C v n f := by
  rcases h with h | ⟨b, off, cap, e, h1, h2, hc⟩
  · exact .inl h
  · exact .inr ⟨b, off, cap, e, h1, h2, fun i hi => ⟨(hs.cell h1 h2 _).trans (hc i hi).1, (hs.cell h1 h2 _).trans (hc i hi).2⟩⟩
theorem OwnRow.range {w : World} {B n : Nat} {v : Value} {f : Slots} (h : OwnRow w B v n f) : RowR w B w.heap.size v n f := by
  rcases h with ⟨rfl, rfl⟩ | ⟨g, cap, rfl, h⟩
  · exact .inl ⟨rfl, _, _, rfl⟩
  · exact .inr ⟨g, 0, cap, rfl, h.1, h.lt, fun i hi => by simpa using h.cells hi⟩

def RowTR (w : World) (B C : Nat) (v : Value) (n : Nat) (f : Tms) : Prop :=
  (n = 0 ∧ ∃ a cap, v = .slice a 0 cap) ∨ ∃ b off cap, v = .slice (some ⟨b, off, none⟩) n cap ∧ B ≤ b ∧ b < C ∧
    ∀ i, i < n → ∀ j, j < 8 → w.cell? ⟨b, off + i * 8 + j, none⟩ = some (.int .i64 (tmAt (f i) j))
theorem RowTAt.range {w : World} {v : Value} {n : Nat} {f : Tms} (h : RowTAt w v n f) : RowTR w 0 w.heap.size v n f := by
  rcases h with h | ⟨b, off, cap, e, hl, hc⟩
  · exact .inl h
  · exact .inr ⟨b, off, cap, e, Nat.zero_le _, hl, hc⟩
theorem RowTR.row {w : World} {B C n : Nat} {v : Value} {f : Tms} (h : RowTR w B C v n f) (hC : C ≤ w.heap.size) : RowTAt w v n f := by
  rcases h with h | ⟨b, off, cap, e, _, hl, hc⟩
  · exact .inl h
  · exact .inr ⟨b, off, cap, e, by omega, hc⟩
theorem RowTR.keep {w w' : World} {B C n : Nat} {v : Value} {f : Tms} (h : RowTR w B C v n f) (hs : Same B C w w') : RowTR w' B C v n f := by
  rcases h with h | ⟨b, off, cap, e, h1, h2, hc⟩
  · exact .inl h
  · exact .inr ⟨b, off, cap, e, h1, h2, fun i hi j hj => (hs.cell h1 h2 _).trans (hc i hi j hj)⟩
theorem OwnTRow.range {w : World} {B n : Nat} {v : Value} {f : Tms} (h : OwnTRow w B v n f) : RowTR w B w.heap.size v n f := by
  rcases h with ⟨rfl, rfl⟩ | ⟨g, cap, rfl, h⟩
  · exact .inl ⟨rfl, _, _, rfl⟩
  · exact .inr ⟨g, 0, cap, rfl, h.1, h.lt, fun i hi j hj => by simpa using h.cells hi j hj⟩

def PcR (w : World) (B C b o : Nat) (p : Pc) : Prop :=
  ∃ a cap, w.cell? ⟨b, o, none⟩ = some (.slice a p.n cap) ∧ w.cell? ⟨b, o + 1, none⟩ = some (.int .i64 p.l) ∧ w.cell? ⟨b, o + 2, none⟩ = some (.int .i64 p.e) ∧ w.cell? ⟨b, o + 3, none⟩ = some (.int .i64 p.d) ∧ RowR w B C (.slice a p.n cap) p.n p.f
def RowPR (w : World) (B C : Nat) (v : Value) (m : Nat) (P : Pcs) : Prop :=
  (m = 0 ∧ ∃ a cap, v = .slice a 0 cap) ∨ ∃ b off cap, v = .slice (some ⟨b, off, none⟩) m cap ∧ B ≤ b ∧ b < C ∧ ∀ i, i < m → PcR w B C b (off + i * 4) (P i)
theorem RowPAt.range {w : World} {v : Value} {m : Nat} {P : Pcs} (h : RowPAt w v m P) : RowPR w 0 w.heap.size v m P := by
  rcases h with h | ⟨b, off, cap, e, hl, hc⟩
  · exact .inl h
  · exact .inr ⟨b, off, cap, e, Nat.zero_le _, hl, fun i hi => by
      obtain ⟨a, c, h0, h1, h2, h3, hr⟩ := hc i hi
      exact ⟨a, c, h0, h1, h2, h3, hr.range⟩⟩
theorem RowPR.row {w : World} {B C m : Nat} {v : Value} {P : Pcs} (h : RowPR w B C v m P) (hC : C ≤ w.heap.size) : RowPAt w v m P := by
  rcases h with h | ⟨b, off, cap, e, _, hl, hc⟩
  · exact .inl h
  · exact .inr ⟨b, off, cap, e, by omega, fun i hi => by
      obtain ⟨a, c, h0, h1, h2, h3, hr⟩ := hc i hi
      exact ⟨a, c, h0, h1, h2, h3, hr.row hC⟩⟩
theorem RowPR.keep {w w' : World} {B C m : Nat} {v : Value} {P : Pcs} (h : RowPR w B C v m P) (hs : Same B C w w') : RowPR w' B C v m P := by
  rcases h with h | ⟨b, off, cap, e, h1, h2, hc⟩
  · exact .inl h
  · exact .inr ⟨b, off, cap, e, h1, h2, fun i hi => by
      obtain ⟨a, c, x0, x1, x2, x3, hr⟩ := hc i hi
      exact ⟨a, c, (hs.cell h1 h2 _).trans x0, (hs.cell h1 h2 _).trans x1, (hs.cell h1 h2 _).trans x2, (hs.cell h1 h2 _).trans x3, hr.keep hs⟩⟩
theorem OwnPRow.range {w : World} {B m : Nat} {v : Value} {P : Pcs} (h : OwnPRow w B v m P) : RowPR w B w.heap.size v m P := by
  rcases h with ⟨rfl, rfl⟩ | ⟨g, cap, V, rfl, h⟩
  · exact .inl ⟨rfl, _, _, rfl⟩
  · exact .inr ⟨g, 0, cap, rfl, h.1.1, h.1.lt, fun i hi => by
      obtain ⟨h0, h1, h2, h3⟩ := h.1.cells hi
      have ho := h.2.1 i hi
      obtain ⟨a, c, e⟩ := ho.value
      rw [e] at h0 ho
      exact ⟨a, c, by simpa using h0, by simpa using h1, by simpa using h2, by simpa using h3, ho.range⟩⟩

/-! ### a memory -/
def MemR (w : World) (B C : Nat) (tv pv : Value) (M : Me) : Prop := RowTR w B C tv M.tn M.t ∧ RowPR w B C pv M.pn M.p
def MemAt (w : World) (tv pv : Value) (M : Me) : Prop := RowTAt w tv M.tn M.t ∧ RowPAt w pv M.pn M.p
def OwnMem (w : World) (B : Nat) (tv pv : Value) (M : Me) : Prop := OwnTRow w B tv M.tn M.t ∧ OwnPRow w B pv M.pn M.p
theorem MemAt.range {w : World} {tv pv : Value} {M : Me} (h : MemAt w tv pv M) : MemR w 0 w.heap.size tv pv M := ⟨h.1.range, h.2.range⟩
theorem MemAt.below {w w' : World} {tv pv : Value} {M : Me} (h : MemAt w tv pv M) (hb : Below w.heap.size w w') : MemAt w' tv pv M := ⟨h.1.below hb, h.2.below hb⟩
theorem MemR.at {w : World} {B C : Nat} {tv pv : Value} {M : Me} (h : MemR w B C tv pv M) (hC : C ≤ w.heap.size) : MemAt w tv pv M := ⟨h.1.row hC, h.2.row hC⟩
theorem MemR.keep {w w' : World} {B C : Nat} {tv pv : Value} {M : Me} (h : MemR w B C tv pv M) (hs : Same B C w w') : MemR w' B C tv pv M := ⟨h.1.keep hs, h.2.keep hs⟩
theorem OwnMem.range {w : World} {B : Nat} {tv pv : Value} {M : Me} (h : OwnMem w B tv pv M) : MemR w B w.heap.size tv pv M := ⟨h.1.range, h.2.range⟩
theorem OwnMem.at {w : World} {B : Nat} {tv pv : Value} {M : Me} (h : OwnMem w B tv pv M) : MemAt w tv pv M := ⟨h.1.row, h.2.row⟩
theorem OwnMem.below {w w' : World} {B : Nat} {tv pv : Value} {M : Me} (h : OwnMem w B tv pv M) (hb : Below w.heap.size w w') : OwnMem w' B tv pv M := ⟨h.1.below hb, h.2.below hb⟩
theorem MemAt.form {w : World} {tv pv : Value} {M : Me} (h : MemAt w tv pv M) : ∃ a cap b cap', tv = .slice a M.tn cap ∧ pv = .slice b M.pn cap' := by
  obtain ⟨a, c, e⟩ := h.1.form
  obtain ⟨b, c', e'⟩ := h.2.form
  exact ⟨a, c, b, c', e, e'⟩

/-! ### its own, before a bound: to be marked -/
def OwnTIn (w : World) (B C : Nat) (v : Value) (n : Nat) (f : Tms) : Prop := (n = 0 ∧ v = .slice none 0 0) ∨ ∃ g cap, v = .slice (some ⟨g, 0, none⟩) n cap ∧ OwnTAt w B g n cap f ∧ g < C
def OwnPIn (w : World) (B C : Nat) (v : Value) (m : Nat) (P : Pcs) : Prop :=
  (m = 0 ∧ v = .slice none 0 0) ∨ ∃ g cap V, v = .slice (some ⟨g, 0, none⟩) m cap ∧ OwnPAt w B g m cap P V ∧ g < C ∧ ∀ i, i < m → ∀ x, (V i).ownBlock = some x → x < C
def OwnMemIn (w : World) (B C : Nat) (tv pv : Value) (M : Me) : Prop := OwnTIn w B C tv M.tn M.t ∧ OwnPIn w B C pv M.pn M.p
theorem OwnMem.inn {w : World} {B : Nat} {tv pv : Value} {M : Me} (h : OwnMem w B tv pv M) : OwnMemIn w B w.heap.size tv pv M := by
  refine ⟨?_, ?_⟩
  · rcases h.1 with h | ⟨g, cap, e, h⟩
    · exact .inl h
    · exact .inr ⟨g, cap, e, h, h.lt⟩
  · rcases h.2 with h | ⟨g, cap, V, e, h⟩
    · exact .inl h
    · exact .inr ⟨g, cap, V, e, h, h.1.lt, fun i hi => (h.2.1 i hi).lt_size⟩
theorem OwnTIn.keep {w w' : World} {B C n : Nat} {v : Value} {f : Tms} (h : OwnTIn w B C v n f) (hs : Same B C w w') : OwnTIn w' B C v n f := by
  rcases h with h | ⟨g, cap, e, h, hg⟩
  · exact .inl h
  · exact .inr ⟨g, cap, e, h.block (hs g h.1 hg), hg⟩
theorem OwnPIn.keep {w w' : World} {B C m : Nat} {v : Value} {P : Pcs} (h : OwnPIn w B C v m P) (hs : Same B C w w') : OwnPIn w' B C v m P := by
  rcases h with h | ⟨g, cap, V, e, ⟨hl, hh⟩, hg, hV⟩
  · exact .inl h
  · refine .inr ⟨g, cap, V, e, ⟨hl.block (hs g hl.1 hg), hh.other (fun i hi x hx => hs x ?_ (hV i hi x hx))⟩, hg, hV⟩
    rcases hh.1 i hi with ⟨_, ev⟩ | ⟨y, c, ev, ho⟩
    · rw [ev] at hx; simp [Value.ownBlock] at hx
    · rw [ev] at hx; simp [Value.ownBlock] at hx; subst hx; exact ho.1
theorem OwnMemIn.keep {w w' : World} {B C : Nat} {tv pv : Value} {M : Me} (h : OwnMemIn w B C tv pv M) (hs : Same B C w w') : OwnMemIn w' B C tv pv M := ⟨h.1.keep hs, h.2.keep hs⟩
theorem OwnTIn.range {w : World} {B C n : Nat} {v : Value} {f : Tms} (h : OwnTIn w B C v n f) : RowTR w B C v n f := by
  rcases h with ⟨rfl, rfl⟩ | ⟨g, cap, rfl, h, hg⟩
  · exact .inl ⟨rfl, _, _, rfl⟩
  · exact .inr ⟨g, 0, cap, rfl, h.1, hg, fun i hi j hj => by simpa using h.cells hi j hj⟩
theorem OwnPIn.range {w : World} {B C m : Nat} {v : Value} {P : Pcs} (h : OwnPIn w B C v m P) : RowPR w B C v m P := by
  rcases h with ⟨rfl, rfl⟩ | ⟨g, cap, V, rfl, h, hg, hV⟩
  · exact .inl ⟨rfl, _, _, rfl⟩
  · exact .inr ⟨g, 0, cap, rfl, h.1.1, hg, fun i hi => by
      obtain ⟨h0, h1, h2, h3⟩ := h.1.cells hi
      have ho := h.2.1 i hi
      have hx := hV i hi
      rcases ho with ⟨hn, ev⟩ | ⟨x, c, ev, ho⟩
      · rw [ev] at h0
        exact ⟨none, 0, by rw [hn]; simpa using h0, by simpa using h1, by simpa using h2, by simpa using h3, .inl ⟨hn, none, 0, by rw [hn]⟩⟩
      · rw [ev] at h0 hx
        exact ⟨_, c, by simpa using h0, by simpa using h1, by simpa using h2, by simpa using h3, .inr ⟨x, 0, c, rfl, ho.1, hx x rfl, fun j hj => by simpa using ho.cells hj⟩⟩⟩
theorem OwnMemIn.range {w : World} {B C : Nat} {tv pv : Value} {M : Me} (h : OwnMemIn w B C tv pv M) : MemR w B C tv pv M := ⟨h.1.range, h.2.range⟩

end Go.Proofs.Ytpgfffmojcaocaa

/-
  The laws' own helpers on a memory: measured, copied out of the law's argument, compared, marked, looked at again.
-/
namespace Go.Proofs.Ytpgfffmojcaocaa
open Go.RowKit Go.Joins
set_option linter.unusedVariables false

set_option maxRecDepth 100000 in
set_option maxHeartbeats 1000000 in
theorem szMem_ok {tv pv : Value} {M : Me} {w : World} (h : MemAt w tv pv M) (left : Int) (h1 : left ≤ 1048576) (hle : (sizeM M : Nat) ≤ left) :
    Calls Try.prog 4 #[meV M.c tv pv, .int .i64 left] w fun e w' => e = .returned (.int .i64 (left - (sizeM M : Nat))) ∧ Below w.heap.size w w' := by
  obtain ⟨a, cap, b, cap', rfl, rfl⟩ := h.form
  have k0 := (Below.refl w.heap.size w).alloc (Nat.le_refl _) (.cells #[.int .i64 M.c, .slice a M.tn cap, .slice b M.pn cap'] 27)
  have hsz : (sizeM M : Int) = (M.tn : Int) + ((M.pn : Int) + (slotsP M.p M.pn : Nat)) := by unfold sizeM; omega
  obtain ⟨y, hy⟩ : ∃ y : Int, y = left - (M.tn : Int) := ⟨_, rfl⟩
  obtain ⟨z, hz⟩ : ∃ z : Int, z = y - (M.pn : Int) - (slotsP M.p M.pn : Nat) := ⟨_, rfl⟩
  have hv1 : ∃ a' c', (Value.slice a M.tn cap) = .slice a' M.tn c' := ⟨_, _, rfl⟩
  have ST := fun W : World => szTimerS_is hv1 left W (by omega) h1 (by unfold maxLen; omega)
  simp only [if_neg (show ¬ left < (M.tn : Int) by omega), ← hy] at ST
  have SP := szProcS_ok (h.below k0).2 y (by omega) (by omega)
  rw [← hz] at SP
  rw [show left - (sizeM M : Nat) = z by omega]
  have d0 : decide (y < 0) = false := by simp; omega
  have d1 : decide (z < 0) = false := by simp; omega
  have HST := Lib.hid ST
  have HSP := Lib.hid SP
  clear ST SP hy hz hsz hle h1 hv1 h
  go_enter Try.func4, Try.ntmps4
  go_wp2_with fail
  go_at_call 12; refine (HST.out _).mono ?_; rintro x w1 ⟨rfl, rfl⟩
  go_wp2_with fail
  go_at_call 13; refine HSP.out.mono ?_; rintro x w2 ⟨rfl, hb⟩
  go_wp2
  go_ret
  exact ⟨rfl, k0.trans (hb.mono k0.size)⟩

set_option maxRecDepth 100000 in
set_option maxHeartbeats 1000000 in
theorem szMem_big {tv pv : Value} {M : Me} {w : World} (h : MemAt w tv pv M) (htn : M.tn ≤ maxLen) (hpn : M.pn ≤ maxLen) (hn : ∀ i, i < M.pn → (M.p i).n ≤ maxLen) (left : Int) (h0 : 0 ≤ left) (h1 : left ≤ 1048576) (hle : left < (sizeM M : Nat)) :
    Calls Try.prog 4 #[meV M.c tv pv, .int .i64 left] w fun e w' => e = .returned (.int .i64 (-1)) ∧ Below w.heap.size w w' := by
  obtain ⟨a, cap, b, cap', rfl, rfl⟩ := h.form
  have k0 := (Below.refl w.heap.size w).alloc (Nat.le_refl _) (.cells #[.int .i64 M.c, .slice a M.tn cap, .slice b M.pn cap'] 27)
  have hsz : (sizeM M : Int) = (M.tn : Int) + ((M.pn : Int) + (slotsP M.p M.pn : Nat)) := by unfold sizeM; omega
  have hv1 : ∃ a' c', (Value.slice a M.tn cap) = .slice a' M.tn c' := ⟨_, _, rfl⟩
  have ST := fun W : World => szTimerS_is hv1 left W h0 h1 htn
  by_cases hb : left < (M.tn : Int)
  · simp only [if_pos hb] at ST
    have HST := Lib.hid ST
    clear ST hv1 h hsz
    go_enter Try.func4, Try.ntmps4
    go_wp2_with fail
    go_at_call 12; refine (HST.out _).mono ?_; rintro x w1 ⟨rfl, rfl⟩
    go_wp2
    go_ret
    exact ⟨rfl, k0⟩
  · obtain ⟨y, hy⟩ : ∃ y : Int, y = left - (M.tn : Int) := ⟨_, rfl⟩
    simp only [if_neg hb, ← hy] at ST
    have SP := szProcS_big (h.below k0).2 hpn hn y (by omega) (by omega) (by omega)
    have d0 : decide (y < 0) = false := by simp; omega
    have HST := Lib.hid ST
    have HSP := Lib.hid SP
    clear ST SP hy hsz hle h1 hv1 h hn
    go_enter Try.func4, Try.ntmps4
    go_wp2_with fail
    go_at_call 12; refine (HST.out _).mono ?_; rintro x w1 ⟨rfl, rfl⟩
    go_wp2_with fail
    go_at_call 13; refine HSP.out.mono ?_; rintro x w2 ⟨rfl, hb⟩
    go_wp2
    go_ret
    exact ⟨rfl, k0.trans (hb.mono k0.size)⟩

/-- a call that makes a new memory -/
def NewMe (M : Me) (w : World) (e : Ending) (w' : World) : Prop := ∃ tv pv, e = .returned (meV M.c tv pv) ∧ OwnMem w' w.heap.size tv pv M ∧ Below w.heap.size w w'
theorem OwnTRow.kept1 {w w' : World} {B n : Nat} {v : Value} {f : Tms} (h : OwnTRow w B v n f) (e : ∀ g, B ≤ g → g < w.heap.size → w'.heap[g]? = w.heap[g]?) : OwnTRow w' B v n f := by
  rcases h with h | ⟨g, cap, ev, h⟩
  · exact .inl h
  · exact .inr ⟨g, cap, ev, h.block (e g h.1 h.lt)⟩
theorem OwnPRow.kept1 {w w' : World} {B m : Nat} {v : Value} {P : Pcs} (h : OwnPRow w B v m P) (e : ∀ g, B ≤ g → g < w.heap.size → w'.heap[g]? = w.heap[g]?) : OwnPRow w' B v m P := by
  rcases h with h | ⟨g, cap, V, ev, hl, hh⟩
  · exact .inl h
  · refine .inr ⟨g, cap, V, ev, hl.block (e g hl.1 hl.lt), hh.other (fun i hi x hx => e x ?_ ((hh.1 i hi).lt_size x hx))⟩
    rcases hh.1 i hi with ⟨_, ev⟩ | ⟨y, c, ev, ho⟩
    · rw [ev] at hx; simp [Value.ownBlock] at hx
    · rw [ev] at hx; simp [Value.ownBlock] at hx; subst hx; exact ho.1
theorem OwnMem.kept1 {w w' : World} {B : Nat} {tv pv : Value} {M : Me} (h : OwnMem w B tv pv M) (e : ∀ g, B ≤ g → g < w.heap.size → w'.heap[g]? = w.heap[g]?) : OwnMem w' B tv pv M := ⟨h.1.kept1 e, h.2.kept1 e⟩
theorem OwnTRow.mono' {w : World} {B B' n : Nat} {v : Value} {f : Tms} (h : OwnTRow w B v n f) (hB : B' ≤ B) : OwnTRow w B' v n f := h.mono hB
theorem OwnMem.mono {w : World} {B B' : Nat} {tv pv : Value} {M : Me} (h : OwnMem w B tv pv M) (hB : B' ≤ B) : OwnMem w B' tv pv M := ⟨h.1.mono hB, h.2.mono hB⟩

abbrev memO (c : Int) (tv pv : Value) (t : TypeId) : Obj := .cells #[.int .i64 c, tv, pv] t
set_option maxRecDepth 100000 in
set_option maxHeartbeats 2000000 in
theorem toMem_any {tv pv : Value} {M : Me} {w : World} (hs : sizeM M ≤ 1048576) (h : MemAt w tv pv M) :
    Calls Try.prog 7 #[meV M.c tv pv] w (NewMe M w) := by
  obtain ⟨htn, hpn, hsl, hn⟩ := sizeM_le hs
  obtain ⟨a, cap, b, cap', rfl, rfl⟩ := h.form
  have k0 := (Below.refl w.heap.size w).alloc (Nat.le_refl _) (memO M.c (.slice a M.tn cap) (.slice b M.pn cap') 27)
  have e1 : (w.alloc (memO M.c (.slice a M.tn cap) (.slice b M.pn cap') 27)).heap.size = w.heap.size + 1 := by simp
  have k1 := k0.alloc (by omega) (memO 0 (.slice none 0 0) (.slice none 0 0) 32)
  have e2 : ((w.alloc (memO M.c (.slice a M.tn cap) (.slice b M.pn cap') 27)).alloc (memO 0 (.slice none 0 0) (.slice none 0 0) 32)).heap.size = w.heap.size + 1 + 1 := by simp
  have k2 := k1.alloc (by omega) (memO 0 (.slice none 0 0) (.slice none 0 0) 32)
  have e3 : (((w.alloc (memO M.c (.slice a M.tn cap) (.slice b M.pn cap') 27)).alloc (memO 0 (.slice none 0 0) (.slice none 0 0) 32)).alloc (memO 0 (.slice none 0 0) (.slice none 0 0) 32)).heap.size = w.heap.size + 1 + 1 + 1 := by simp
  have hA := alloc_block (memO 0 (.slice none 0 0) (.slice none 0 0) 32) (alloc_block (memO 0 (.slice none 0 0) (.slice none 0 0) 32) (heap_alloc_new w (memO M.c (.slice a M.tn cap) (.slice b M.pn cap') 27)))
  have hR := alloc_block (memO 0 (.slice none 0 0) (.slice none 0 0) 32) (heap_alloc_new (w.alloc (memO M.c (.slice a M.tn cap) (.slice b M.pn cap') 27)) (memO 0 (.slice none 0 0) (.slice none 0 0) 32))
  rw [e1] at hR
  have hX := heap_alloc_new ((w.alloc (memO M.c (.slice a M.tn cap) (.slice b M.pn cap') 27)).alloc (memO 0 (.slice none 0 0) (.slice none 0 0) 32)) (memO 0 (.slice none 0 0) (.slice none 0 0) 32)
  rw [e2] at hX
  generalize hW3 : ((w.alloc (memO M.c (.slice a M.tn cap) (.slice b M.pn cap') 27)).alloc (memO 0 (.slice none 0 0) (.slice none 0 0) 32)).alloc (memO 0 (.slice none 0 0) (.slice none 0 0) 32) = W3 at k2 e3 hA hR hX
  have HM0 := Lib.hid h
  -- the clock is stored
  have hX1 : (W3.setCell ⟨w.heap.size + 1 + 1, 0, none⟩ (.int .i64 M.c)).heap[w.heap.size + 1 + 1]? = some (memO M.c (.slice none 0 0) (.slice none 0 0) 32) := block_setCell (i := 0) hX _
  have hA1 : (W3.setCell ⟨w.heap.size + 1 + 1, 0, none⟩ (.int .i64 M.c)).heap[w.heap.size]? = _ := (Below.heap_setCell W3 ⟨w.heap.size + 1 + 1, 0, none⟩ _ w.heap.size (show w.heap.size ≠ w.heap.size + 1 + 1 by omega)).trans hA
  have hR1 : (W3.setCell ⟨w.heap.size + 1 + 1, 0, none⟩ (.int .i64 M.c)).heap[w.heap.size + 1]? = _ := (Below.heap_setCell W3 ⟨w.heap.size + 1 + 1, 0, none⟩ _ (w.heap.size + 1) (show w.heap.size + 1 ≠ w.heap.size + 1 + 1 by omega)).trans hR
  have k3 : Below w.heap.size w (W3.setCell ⟨w.heap.size + 1 + 1, 0, none⟩ (.int .i64 M.c)) := k2.setCell (p := ⟨w.heap.size + 1 + 1, 0, none⟩) (show w.heap.size ≤ w.heap.size + 1 + 1 by omega) _
  have e4 : (W3.setCell ⟨w.heap.size + 1 + 1, 0, none⟩ (.int .i64 M.c)).heap.size = w.heap.size + 1 + 1 + 1 := by simp [e3]
  obtain ⟨x0, x1, x2, xf0, xf1, xf2⟩ := three hX
  obtain ⟨a0, a1, a2, _, _, _⟩ := three hA
  clear k0 k1 k2 e1 e2 hA hR hX h
  go_enter Try.func7, Try.ntmps7
  go_wp2_with fail
  clear hW3
  clear x0 x1 x2 xf0 xf1 xf2 a0 a1 a2 e3
  generalize (W3.setCell ⟨w.heap.size + 1 + 1, 0, none⟩ (.int .i64 M.c)) = W4 at hX1 hA1 hR1 k3 e4 ⊢
  go_at_call 18; refine (toTimerS_any htn (HM0.out.below k3).1).mono ?_; rintro x w1 ⟨u, rfl, hT, hb⟩
  have k4 := k3.trans (hb.mono (by omega))
  have hX2 := b_block hb hX1 (by omega)
  have hA2 := b_block hb hA1 (by omega)
  have hR2 := b_block hb hR1 (by omega)
  have hs1 := hb.size
  rw [e4] at hT hs1
  obtain ⟨ua, uc, hu⟩ := hT.row.form
  subst hu
  have hX3 : (w1.setCell ⟨w.heap.size + 1 + 1, 1, none⟩ (.slice ua M.tn uc)).heap[w.heap.size + 1 + 1]? = some (memO M.c (.slice ua M.tn uc) (.slice none 0 0) 32) := block_setCell (i := 1) hX2 _
  have hA3 : (w1.setCell ⟨w.heap.size + 1 + 1, 1, none⟩ (.slice ua M.tn uc)).heap[w.heap.size]? = _ := (Below.heap_setCell w1 ⟨w.heap.size + 1 + 1, 1, none⟩ _ w.heap.size (show w.heap.size ≠ w.heap.size + 1 + 1 by omega)).trans hA2
  have hR3 : (w1.setCell ⟨w.heap.size + 1 + 1, 1, none⟩ (.slice ua M.tn uc)).heap[w.heap.size + 1]? = _ := (Below.heap_setCell w1 ⟨w.heap.size + 1 + 1, 1, none⟩ _ (w.heap.size + 1) (show w.heap.size + 1 ≠ w.heap.size + 1 + 1 by omega)).trans hR2
  have k5 : Below w.heap.size w (w1.setCell ⟨w.heap.size + 1 + 1, 1, none⟩ (.slice ua M.tn uc)) := k4.setCell (p := ⟨w.heap.size + 1 + 1, 1, none⟩) (show w.heap.size ≤ w.heap.size + 1 + 1 by omega) _
  have hT3 : OwnTRow (w1.setCell ⟨w.heap.size + 1 + 1, 1, none⟩ (.slice ua M.tn uc)) (w.heap.size + 1 + 1 + 1) (.slice ua M.tn uc) M.tn M.t := hT.set (b := w.heap.size + 1 + 1) (by omega) 1 _
  have e5 : (w1.setCell ⟨w.heap.size + 1 + 1, 1, none⟩ (.slice ua M.tn uc)).heap.size = w1.heap.size := by simp
  obtain ⟨x0, x1, x2, xf0, xf1, xf2⟩ := three hX2
  obtain ⟨a0, a1, a2, _, _, _⟩ := three hA2
  clear hb hX1 hA1 hR1 hX2 hA2 hR2 k3 k4 hT e4
  go_wp2_with fail
  clear x0 x1 x2 xf0 xf1 xf2 a0 a1 a2
  generalize (w1.setCell ⟨w.heap.size + 1 + 1, 1, none⟩ (.slice ua M.tn uc)) = W5 at hX3 hA3 hR3 k5 hT3 e5 ⊢
  go_at_call 19; refine (toProcS_any hpn hn (HM0.out.below k5).2).mono ?_; rintro x w2 ⟨y, rfl, hP, hb⟩
  have k6 := k5.trans (hb.mono (by omega))
  have hX4 := b_block hb hX3 (by omega)
  have hR4 := b_block hb hR3 (by omega)
  have hT4 := hT3.below hb
  replace hP := hP.mono (B' := w.heap.size + 1 + 1 + 1) (by omega)
  obtain ⟨ya, yc, hy⟩ := hP.row.form
  subst hy
  have hTF : OwnTRow ((((w2.setCell ⟨w.heap.size + 1 + 1, 2, none⟩ (.slice ya M.pn yc)).setCell ⟨w.heap.size + 1, 0, none⟩ (.int .i64 M.c)).setCell ⟨w.heap.size + 1, 1, none⟩ (.slice ua M.tn uc)).setCell ⟨w.heap.size + 1, 2, none⟩ (.slice ya M.pn yc)) (w.heap.size + 1 + 1 + 1) (.slice ua M.tn uc) M.tn M.t := (((hT4.set (b := w.heap.size + 1 + 1) (by omega) 2 _).set (b := w.heap.size + 1) (by omega) 0 _).set (b := w.heap.size + 1) (by omega) 1 _).set (b := w.heap.size + 1) (by omega) 2 _
  have hPF : OwnPRow ((((w2.setCell ⟨w.heap.size + 1 + 1, 2, none⟩ (.slice ya M.pn yc)).setCell ⟨w.heap.size + 1, 0, none⟩ (.int .i64 M.c)).setCell ⟨w.heap.size + 1, 1, none⟩ (.slice ua M.tn uc)).setCell ⟨w.heap.size + 1, 2, none⟩ (.slice ya M.pn yc)) (w.heap.size + 1 + 1 + 1) (.slice ya M.pn yc) M.pn M.p := hP.kept1 (fun g h1 _ =>
    (Below.heap_setCell (((w2.setCell ⟨w.heap.size + 1 + 1, 2, none⟩ (.slice ya M.pn yc)).setCell ⟨w.heap.size + 1, 0, none⟩ (.int .i64 M.c)).setCell ⟨w.heap.size + 1, 1, none⟩ (.slice ua M.tn uc)) ⟨w.heap.size + 1, 2, none⟩ _ g (show g ≠ w.heap.size + 1 by omega)).trans ((Below.heap_setCell ((w2.setCell ⟨w.heap.size + 1 + 1, 2, none⟩ (.slice ya M.pn yc)).setCell ⟨w.heap.size + 1, 0, none⟩ (.int .i64 M.c)) ⟨w.heap.size + 1, 1, none⟩ _ g (show g ≠ w.heap.size + 1 by omega)).trans ((Below.heap_setCell (w2.setCell ⟨w.heap.size + 1 + 1, 2, none⟩ (.slice ya M.pn yc)) ⟨w.heap.size + 1, 0, none⟩ _ g (show g ≠ w.heap.size + 1 by omega)).trans (Below.heap_setCell w2 ⟨w.heap.size + 1 + 1, 2, none⟩ _ g (show g ≠ w.heap.size + 1 + 1 by omega)))))
  have kF : Below w.heap.size w ((((w2.setCell ⟨w.heap.size + 1 + 1, 2, none⟩ (.slice ya M.pn yc)).setCell ⟨w.heap.size + 1, 0, none⟩ (.int .i64 M.c)).setCell ⟨w.heap.size + 1, 1, none⟩ (.slice ua M.tn uc)).setCell ⟨w.heap.size + 1, 2, none⟩ (.slice ya M.pn yc)) := (((k6.setCell (p := ⟨w.heap.size + 1 + 1, 2, none⟩) (show w.heap.size ≤ w.heap.size + 1 + 1 by omega) _).setCell (p := ⟨w.heap.size + 1, 0, none⟩) (show w.heap.size ≤ w.heap.size + 1 by omega) _).setCell (p := ⟨w.heap.size + 1, 1, none⟩) (show w.heap.size ≤ w.heap.size + 1 by omega) _).setCell (p := ⟨w.heap.size + 1, 2, none⟩) (show w.heap.size ≤ w.heap.size + 1 by omega) _
  obtain ⟨x0, x1, x2, xf0, xf1, xf2⟩ := three hX4
  obtain ⟨r0, r1, r2, rf0, rf1, rf2⟩ := three hR4
  clear hb hX3 hA3 hR3 hX4 hR4 k5 k6 hT3 hT4 hP e5
  go_wp2
  exact bodyPost_ret (v := meV M.c (.slice ua M.tn uc) (.slice ya M.pn yc)) (by simp [results, Try.results7, go_sem, r0, r1, r2]) rfl ⟨_, _, rfl, ⟨hTF.mono (by omega), hPF.mono (by omega)⟩, kF⟩

set_option maxRecDepth 100000 in
set_option maxHeartbeats 1000000 in
theorem eqMem_same {tv1 pv1 tv2 pv2 : Value} {M : Me} {w : World} (hs : sizeM M ≤ 1048576) (h1 : MemAt w tv1 pv1 M) (h2 : MemAt w tv2 pv2 M) :
    Calls Try.prog 9 #[meV M.c tv1 pv1, meV M.c tv2 pv2] w fun x w' => x = .returned (.bool true) ∧ Below w.heap.size w w' := by
  obtain ⟨htn, hpn, hsl, hn⟩ := sizeM_le hs
  obtain ⟨a1, c1, b1, d1, rfl, rfl⟩ := h1.form
  obtain ⟨a2, c2, b2, d2, rfl, rfl⟩ := h2.form
  have k0 := ((Below.refl w.heap.size w).alloc (Nat.le_refl _) (memO M.c (.slice a1 M.tn c1) (.slice b1 M.pn d1) 32)).alloc (by simp) (memO M.c (.slice a2 M.tn c2) (.slice b2 M.pn d2) 32)
  have R1 := h1.below k0
  have R2 := h2.below k0
  have H1 := Lib.hid R1
  have H2 := Lib.hid R2
  clear h1 h2 R1 R2
  go_enter Try.func9, Try.ntmps9
  go_wp2_with fail
  go_at_call 24; refine (eqTimerS_same htn H1.out.1 H2.out.1).mono ?_; rintro x w1 ⟨rfl, hb⟩
  obtain ⟨hc, hf⟩ := bcell hb
  have k1 := k0.trans (hb.mono k0.size)
  have P1 := H1.out.2.below hb
  have P2 := H2.out.2.below hb
  have HP1 := Lib.hid P1
  have HP2 := Lib.hid P2
  clear P1 P2
  go_wp2_with fail
  go_at_call 25; refine (eqProcS_same hpn hn HP1.out HP2.out).mono ?_; rintro x w2 ⟨rfl, hb2⟩
  have k2 := k1.trans (hb2.mono k1.size)
  clear hb hb2 hc hf
  go_wp2
  go_ret
  exact ⟨rfl, k2⟩

/-! ### marked, and looked at again -/
def markMe (M : Me) (q : Int) : Me := ⟨M.c, M.tn, markT M.t q M.tn, M.pn, markP M.p (q + 8 * (M.tn : Int)) M.pn⟩
def markEnd (M : Me) (q : Int) : Int := markAt M.p (q + 8 * (M.tn : Int)) M.pn
theorem markEnd_le {M : Me} {q : Int} (h : sizeM M ≤ 1048576) (h1 : q ≤ 4194304) : markEnd M q ≤ 16777216 := by
  unfold markEnd markAt
  unfold sizeM at h
  omega
theorem markEnd_ge {M : Me} {q : Int} : q ≤ markEnd M q := by
  unfold markEnd markAt
  omega

set_option maxHeartbeats 400000 in
theorem markTimerS_nil (m : Int) (w : World) :
    Calls Try.prog 26 #[.slice none 0 0, .int .i64 m] w fun e w' => e = .returned (.int .i64 m) ∧ w = w' := by
  go_enter Try.func26, Try.ntmps26
  go_wp2
  go_loop [1, 5] (fun q i => i = .int .i64 0 ∧ q = .int .i64 m) (fun _ _ => 0)
  case atStart => exact ⟨rfl, rfl⟩
  case round =>
    obtain ⟨rfl, rfl⟩ := hrel
    go_wp2
    go_ret
    exact ⟨rfl, rfl⟩
theorem markTRow_any {B C n : Nat} {v : Value} {f : Tms} {w : World} (m : Int) (hm0 : 0 ≤ m) (hm1 : m ≤ 16777216) (hn : n ≤ 1048576) (h : OwnTIn w B C v n f) :
    Calls Try.prog 26 #[v, .int .i64 m] w fun e w' => e = .returned (.int .i64 (m + 8 * n)) ∧ OwnTIn w' B C v n (markT f m n) ∧ Mid B C w w' ∧ KeepsBut [66] w w' := by
  rcases h with ⟨rfl, rfl⟩ | ⟨g, cap, rfl, h, hg⟩
  · refine (markTimerS_nil m w).mono fun e w' ⟨he, hw⟩ => ?_
    subst he; subst hw
    exact ⟨by simp, .inl ⟨rfl, rfl⟩, Mid.refl _ _ _, KeepsBut.refl _ _⟩
  · have hB := h.1
    obtain ⟨_, _, _, cur, hh, _⟩ := id h
    refine (markTimerS_any m hm0 hm1 hn h).mono fun e w' ⟨he, ho, hgr⟩ => ?_
    exact ⟨he, .inr ⟨g, cap, rfl, ho, hg⟩, Mid.of_grown hgr (fun x hx => by injection hx with hx; omega), KeepsBut.of_grown hgr (fun x hx => by injection hx with hx; subst hx; exact ⟨cur, _, hh, by decide⟩)⟩
theorem markPRow_any {B C m : Nat} {v : Value} {P : Pcs} {w : World} (q : Int) (hq0 : 0 ≤ q) (hq1 : q + 2 * (slotsP P m : Nat) + 3 * (m : Int) ≤ 16777216) (hn : ∀ i, i < m → (P i).n ≤ 1048576) (hm : m ≤ 1048576) (h : OwnPIn w B C v m P) :
    Calls Try.prog 27 #[v, .int .i64 q] w fun e w' => e = .returned (.int .i64 (markAt P q m)) ∧ OwnPIn w' B C v m (markP P q m) ∧ Mid B C w w' ∧ KeepsBut [71, 73] w w' := by
  rcases h with ⟨rfl, rfl⟩ | ⟨g, cap, V, rfl, h, hg, hV⟩
  · refine (markProcS_nil q w).mono fun e w' ⟨he, hw⟩ => ?_
    subst he; subst hw
    exact ⟨by simp [markAt, slotsP], .inl ⟨rfl, rfl⟩, Mid.refl _ _ _, KeepsBut.refl _ _⟩
  · refine (markProcS_any q hq0 hq1 hn hm h.1 h.2 hg hV).mono fun e w' ⟨he, hl, hh, hm, hk⟩ => ?_
    exact ⟨he, .inr ⟨g, cap, V, rfl, ⟨hl, hh⟩, hg, hV⟩, hm, hk⟩
theorem OwnTIn.keeps {w w' : World} {B C n : Nat} {v : Value} {f : Tms} {T : List TypeId} (h : OwnTIn w B C v n f) (hk : KeepsBut T w w') (ht : 66 ∉ T) : OwnTIn w' B C v n f := by
  rcases h with h | ⟨g, cap, e, h, hg⟩
  · exact .inl h
  · obtain ⟨_, _, _, cur, hh, _⟩ := id h
    exact .inr ⟨g, cap, e, h.block (hk g cur _ hh ht), hg⟩
theorem OwnPIn.keeps {w w' : World} {B C m : Nat} {v : Value} {P : Pcs} {T : List TypeId} (h : OwnPIn w B C v m P) (hk : KeepsBut T w w') (h1 : 71 ∉ T) (h2 : 73 ∉ T) : OwnPIn w' B C v m P := by
  rcases h with h | ⟨g, cap, V, e, ⟨hl, hh⟩, hg, hV⟩
  · exact .inl h
  · obtain ⟨cs, hcs⟩ := hl.typed
    refine .inr ⟨g, cap, V, e, ⟨hl.block (hk g cs _ hcs h1), hh.other (fun i hi x hx => ?_)⟩, hg, hV⟩
    rcases hh.1 i hi with ⟨_, ev⟩ | ⟨y, c, ev, ho⟩
    · rw [ev] at hx; simp [Value.ownBlock] at hx
    · rw [ev] at hx; simp [Value.ownBlock] at hx; subst hx
      obtain ⟨_, _, _, cur, hc, _⟩ := ho
      exact hk y cur _ hc h2

set_option maxRecDepth 100000 in
set_option maxHeartbeats 1000000 in
theorem markMem_any {B C : Nat} {tv pv : Value} {M : Me} {w : World} (q : Int) (hq0 : 0 ≤ q) (hq1 : q ≤ 4194304) (hs : sizeM M ≤ 1048576) (h : OwnMemIn w B C tv pv M) (hC : C ≤ w.heap.size) :
    Calls Try.prog 10 #[meV M.c tv pv, .int .i64 q] w fun x w' => x = .returned (.int .i64 (markEnd M q)) ∧ OwnMemIn w' B C tv pv (markMe M q) ∧ Mid B C w w' := by
  obtain ⟨htn, hpn, hsl, hn⟩ := sizeM_le hs
  have hat := h.range.at hC
  obtain ⟨a, c1, b, c2, rfl, rfl⟩ := hat.form
  have k0 := (Below.refl w.heap.size w).alloc (Nat.le_refl _) (memO M.c (.slice a M.tn c1) (.slice b M.pn c2) 32)
  have hq2 : (q + 8 * (M.tn : Int)) + 2 * (slotsP M.p M.pn : Nat) + 3 * (M.pn : Int) ≤ 16777216 := by unfold sizeM at hs; omega
  have h0 := h.keep (Same.of_below k0 hC)
  have hAv := heap_alloc_new w (memO M.c (.slice a M.tn c1) (.slice b M.pn c2) 32)
  have M0 : Mid B C w (w.alloc (memO M.c (.slice a M.tn c1) (.slice b M.pn c2) 32)) := Mid.of_below k0
  have H0 := Lib.hid h0
  obtain ⟨a0, a1, a2, _, _, _⟩ := three hAv
  clear h h0 hat hs hsl
  go_enter Try.func10, Try.ntmps10
  go_wp2_with fail
  go_at_call 26; refine (markTRow_any q hq0 (by omega) htn H0.out.1).mono ?_; rintro x w1 ⟨rfl, hT1, hM1, hK1⟩
  have hP1 := H0.out.2.keeps hK1 (by decide) (by decide)
  have hA1 : w1.heap[w.heap.size]? = _ := (hK1 w.heap.size _ _ hAv (by decide)).trans hAv
  have M1 := M0.trans hM1
  clear a0 a1 a2 hAv hK1 hM1 M0
  obtain ⟨a0, a1, a2, _, _, _⟩ := three hA1
  go_wp2_with fail
  go_at_call 27; refine (markPRow_any (q + 8 * (M.tn : Int)) (by omega) hq2 hn hpn hP1).mono ?_; rintro x w2 ⟨rfl, hP2, hM2, hK2⟩
  have hT2 := hT1.keeps hK2 (by decide)
  have M2 := M1.trans hM2
  clear a0 a1 a2 hA1 hK2 hM2 M1 hT1 hP1 hq2
  go_wp2
  go_ret
  exact ⟨rfl, ⟨hT2, hP2⟩, M2⟩

set_option maxRecDepth 100000 in
set_option maxHeartbeats 1000000 in
theorem heldMem_any {tv pv : Value} {M : Me} {w : World} (q : Int) (hq0 : 0 ≤ q) (hq1 : q ≤ 4194304) (hs : sizeM M ≤ 1048576) (h : MemAt w tv pv (markMe M q)) :
    Calls Try.prog 11 #[meV M.c tv pv, .int .i64 q] w fun x w' => x = .returned (.int .i64 (markEnd M q)) ∧ Below w.heap.size w w' := by
  obtain ⟨htn, hpn, hsl, hn⟩ := sizeM_le hs
  obtain ⟨a, c1, b, c2, rfl, rfl⟩ : ∃ a cap b cap', tv = .slice a M.tn cap ∧ pv = .slice b M.pn cap' := h.form
  have k0 := (Below.refl w.heap.size w).alloc (Nat.le_refl _) (memO M.c (.slice a M.tn c1) (.slice b M.pn c2) 32)
  have hq2 : (q + 8 * (M.tn : Int)) + 2 * (slotsP M.p M.pn : Nat) + 3 * (M.pn : Int) ≤ 16777216 := by unfold sizeM at hs; omega
  have h0 := h.below k0
  have d0 : decide (q + 8 * (M.tn : Int) < 0) = false := by simp; omega
  have d1 : decide (markEnd M q < 0) = false := by have := @markEnd_ge M q; simp; omega
  have HT := Lib.hid (heldTimerS_any q hq0 (by omega) htn h0.1)
  have HP := Lib.hid (heldProcS_any (q + 8 * (M.tn : Int)) (by omega) hq2 hn hpn h0.2)
  clear h h0 hs hsl
  go_enter Try.func11, Try.ntmps11
  go_wp2_with fail
  go_at_call 28; refine HT.out.mono ?_; rintro x w1 ⟨rfl, rfl⟩
  go_wp2_with fail
  go_at_call 29; refine HP.out.mono ?_; rintro x w1 ⟨rfl, rfl⟩
  unfold markEnd at d1
  go_wp2
  go_ret
  exact ⟨rfl, k0⟩

end Go.Proofs.Ytpgfffmojcaocaa

/-
  A region that draws its order, with guards that say no and calls that make memory: one walk in the order of the text, in a class of worlds of one's own.
-/
namespace Go.Proofs.Ytpgfffmojcaocaa
open Go.RowKit Go.Joins
set_option linter.unusedVariables false

theorem region_quietC {P : Program} {C : World → Prop} {id : Nat} {Q : Exit → Act → World → Prop} {a : Act} {w : World} {l : List Oper} (hm : P.follows .mixedOrders = true) (hB : Region.lexB .any l.toArray = true) (hC : C w.drew)
    (h : wpQuiet P l.toArray C (fun a' => ∀ w', C w' → Q .normal a' w') l a) : (Code.region id l.toArray true).wp P Q a w :=
  wp_region_quiet (C := C) hm hB hC (by simpa using h)
theorem quiet_take {P : Program} {ops : Array Oper} {C : World → Prop} {Q : Act → Prop} {a : Act} {o : Oper} {rest : List Oper} {v : Value} (hw : Region.wanted o (yielded ops a.tmps) = true) (hv : ∀ w, C w → o.quietAt P a C w v)
    (h : wpQuiet P ops C Q rest (a.put o.dst v)) : wpQuiet P ops C Q (o :: rest) a :=
  BigFrame.wpQuiet_want hw (fun K hK => ⟨v, hv, hK _ h⟩)

end Go.Proofs.Ytpgfffmojcaocaa

/-
  Memories (spec, chapter 5): do a processor's slots agree with the timers?
-/
namespace Go.Proofs.Ytpgfffmojcaocaa
open Go.RowKit Go.Joins
set_option linter.unusedVariables false

/-- is there such a timer? -/
def hasT (M : Me) (t : Int) : Bool := inB t 0 ((M.tn : Int) - 1)
theorem hasT_iff {M : Me} {t : Int} : hasT M t = true ↔ 0 ≤ t ∧ t < M.tn := by
  unfold hasT; rw [inB_iff]; omega
def slotOkB (M : Me) (k : Int) (s : Int × Int) : Bool := hasT M s.1 && ((M.t s.1.toNat).pl == k && (M.t s.1.toNat).wh == s.2)
def earlyOkB (M : Me) (e : Int) (s : Int × Int) : Bool := !((M.t s.1.toNat).st == 3 && (decide (e < 0) || decide ((M.t s.1.toNat).nx < e)))
def delsF (M : Me) (f : Slots) : Nat → Int
  | 0 => 0
  | i + 1 => delsF M f i + if (M.t (f i).1.toNat).st = 5 then 1 else 0
def slotsOkB (M : Me) (k e : Int) (f : Slots) : Nat → Bool
  | 0 => true
  | i + 1 => slotsOkB M k e f i && (slotOkB M k (f i) && earlyOkB M e (f i))
theorem slotsOk_bad {M : Me} {k e : Int} {f : Slots} {i : Nat} (h : (slotOkB M k (f i) && earlyOkB M e (f i)) = false) : ∀ n, i < n → slotsOkB M k e f n = false
  | 0, hn => absurd hn (Nat.not_lt_zero _)
  | n + 1, hn => by
    rw [slotsOkB]
    by_cases e' : i = n
    · subst e'; rw [h, Bool.and_false]
    · rw [slotsOk_bad h n (by omega), Bool.false_and]
theorem dels_le (M : Me) (f : Slots) : ∀ n, 0 ≤ delsF M f n ∧ delsF M f n ≤ n
  | 0 => ⟨Int.le_refl _, Int.le_refl _⟩
  | n + 1 => by
    have := dels_le M f n
    rw [delsF]
    split <;> omega
/-- does the processor agree with the timers? -/
def agreeB (a b c : Int) (M : Me) (k : Nat) : Bool :=
  procOkB a b c (M.p k).f (M.p k).n (M.p k).l (M.p k).e (M.p k).d && (slotsOkB M k (M.p k).e (M.p k).f (M.p k).n && delsF M (M.p k).f (M.p k).n == (M.p k).d)

theorem b_alloc1 {W w : World} {o : Obj} (h : Below W.heap.size W w) : Below W.heap.size W (w.alloc o) := h.alloc h.size o

set_option maxHeartbeats 400000 in
theorem l5Has_any {M : Me} {tv pv : Value} (hv : ∃ a cap, tv = .slice a M.tn cap) (hn : M.tn ≤ 1048576) (t : Int) (w : World) :
    Calls Try.prog 53 #[meV M.c tv pv, .int .i64 t] w fun e w' => e = .returned (.bool (hasT M t)) ∧ Below w.heap.size w w' := by
  obtain ⟨a, cap, rfl⟩ := hv
  have k0 := (Below.refl w.heap.size w).alloc (Nat.le_refl _) (memO M.c (.slice a M.tn cap) pv 32)
  have hAv := heap_alloc_new w (memO M.c (.slice a M.tn cap) pv 32)
  obtain ⟨a0, a1, a2, _, _, _⟩ := three hAv
  clear hAv
  unfold hasT
  go_enter Try.func53, Try.ntmps53
  go_wp2_with fail
  go_at_call 32; refine (l1In_any _ _ _ _).mono ?_; rintro x w1 ⟨rfl, rfl⟩
  go_wp2
  go_ret
  exact ⟨rfl, k0⟩

set_option maxRecDepth 100000 in
set_option maxHeartbeats 8000000 in
theorem l5Proc_any (a b c : Int) {tv pv : Value} {M : Me} {k : Nat} {w : World} (hk : k < M.pn) (hs : sizeM M ≤ 1048576) (h : MemAt w tv pv M) :
    Calls Try.prog 33 #[.agg #[.int .i64 a, .int .i64 b, .int .i64 c], meV M.c tv pv, .int .i64 k] w fun e w' => e = .returned (.bool (agreeB a b c M k)) ∧ Below w.heap.size w w' := by
  obtain ⟨htn, hpn, hsl, hns⟩ := sizeM_le hs
  have hnk := hns k hk
  obtain ⟨ta, tc, qa, qc, rfl, rfl⟩ := h.form
  -- the processor's own cells
  rcases h.2 with ⟨h0, _⟩ | ⟨pb, po, pcap, ev, hpl, hpc⟩
  · omega
  injection ev with ev1 ev2 ev3
  subst ev1 ev3
  have hP := hpc k hk
  have k0 := (Below.refl w.heap.size w).alloc (Nat.le_refl _) (.cells #[.int .i64 a, .int .i64 b, .int .i64 c] 35)
  have e0 : (w.alloc (.cells #[.int .i64 a, .int .i64 b, .int .i64 c] 35)).heap.size = w.heap.size + 1 := by simp
  have k1 := k0.alloc (by omega) (memO M.c (.slice ta M.tn tc) (.slice (some ⟨pb, po, none⟩) M.pn qc) 32)
  have e1 : ((w.alloc (.cells #[.int .i64 a, .int .i64 b, .int .i64 c] 35)).alloc (memO M.c (.slice ta M.tn tc) (.slice (some ⟨pb, po, none⟩) M.pn qc) 32)).heap.size = w.heap.size + 1 + 1 := by simp
  obtain ⟨xa, xc, c0, c1, c2, c3, hrow⟩ := hP.below hpl k1
  have k2 := k1.alloc (by omega) (.cells #[.slice xa (M.p k).n xc, .int .i64 (M.p k).l, .int .i64 (M.p k).e, .int .i64 (M.p k).d] 71)
  have hA := alloc_block (.cells #[.slice xa (M.p k).n xc, .int .i64 (M.p k).l, .int .i64 (M.p k).e, .int .i64 (M.p k).d] 71) (alloc_block (memO M.c (.slice ta M.tn tc) (.slice (some ⟨pb, po, none⟩) M.pn qc) 32) (heap_alloc_new w (.cells #[.int .i64 a, .int .i64 b, .int .i64 c] 35)))
  have hMv := alloc_block (.cells #[.slice xa (M.p k).n xc, .int .i64 (M.p k).l, .int .i64 (M.p k).e, .int .i64 (M.p k).d] 71) (heap_alloc_new (w.alloc (.cells #[.int .i64 a, .int .i64 b, .int .i64 c] 35)) (memO M.c (.slice ta M.tn tc) (.slice (some ⟨pb, po, none⟩) M.pn qc) 32))
  rw [e0] at hMv
  have hX := heap_alloc_new ((w.alloc (.cells #[.int .i64 a, .int .i64 b, .int .i64 c] 35)).alloc (memO M.c (.slice ta M.tn tc) (.slice (some ⟨pb, po, none⟩) M.pn qc) 32)) (.cells #[.slice xa (M.p k).n xc, .int .i64 (M.p k).l, .int .i64 (M.p k).e, .int .i64 (M.p k).d] 71)
  rw [e1] at hX
  have hik : (0 : Int) ≤ (k : Int) := by omega
  have hik2 : (k : Int) < (M.pn : Int) := by omega
  have hrow2 := hrow.below ((Below.refl _ _).alloc (Nat.le_refl _) (.cells #[.slice xa (M.p k).n xc, .int .i64 (M.p k).l, .int .i64 (M.p k).e, .int .i64 (M.p k).d] 71))
  have HT := Lib.hid h.1
  have HROW := Lib.hid hrow2
  clear h hP hpc hrow hrow2 hsl hns hs k0 e0 e1
  cases hB : procOkB a b c (M.p k).f (M.p k).n (M.p k).l (M.p k).e (M.p k).d
  · rw [show agreeB a b c M k = false by unfold agreeB; rw [hB, Bool.false_and]]
    have HB := Lib.hid hB
    clear hB
    go_enter Try.func33, Try.ntmps33
    go_wp2_with fail
    go_at_call 52; refine (spProcOk_any _ _ _ _ _ _ hnk HROW.out).mono ?_; rw [HB.out]; rintro x w1 ⟨rfl, hb⟩
    go_wp2
    go_ret
    exact ⟨rfl, k2.trans (hb.mono k2.size)⟩
  have hag : agreeB a b c M k = (slotsOkB M k (M.p k).e (M.p k).f (M.p k).n && delsF M (M.p k).f (M.p k).n == (M.p k).d) := by unfold agreeB; rw [hB, Bool.true_and]
  rw [hag]
  have HB := Lib.hid hB
  clear hB hag
  go_enter Try.func33, Try.ntmps33
  go_wp2_with fail
  go_at_call 52; refine (spProcOk_any _ _ _ _ _ _ hnk HROW.out).mono ?_; rw [HB.out]; rintro x W2 ⟨rfl, hb⟩
  have kr := k2.trans (hb.mono k2.size)
  have hX2 := b_block hb hX (lt_of_block hX)
  have hM2 := b_block hb hMv (lt_of_block hMv)
  have HR2 := Lib.hid (HROW.out.below hb)
  have HT2 := Lib.hid (HT.out.below kr)
  have lX := lt_of_block hX2
  have lM := lt_of_block hM2
  have HXB := Lib.hid hX2
  have HMB := Lib.hid hM2
  clear hb k1 k2 hA hMv hX HROW HT HB c0 c1 c2 c3
  obtain ⟨m0, m1, m2, _, _, _⟩ := three hM2
  obtain ⟨t0, t1, t2, t3, _, _, _, _⟩ := four hX2
  clear hX2 hM2
  go_wp2_with fail
  go_loopw [8, 9] (fun q i' wr => ∃ i : Nat, i ≤ (M.p k).n ∧ i' = .int .i64 i ∧ q = .int .i64 (delsF M (M.p k).f i) ∧ slotsOkB M k (M.p k).e (M.p k).f i = true ∧ Below W2.heap.size W2 wr) (fun _ i' _ => (M.p k).n - (intOf i').toNat)
  case atStart => exact ⟨0, Nat.zero_le _, rfl, rfl, rfl, Below.refl _ _⟩
  case round =>
    obtain ⟨i, hi, rfl, rfl, hok, hbr⟩ := hrel
    clear m0 m1 m2 t0 t1 t2 t3
    obtain ⟨t0, t1, t2, t3, _, _, _, _⟩ := four (b_block hbr HXB.out lX)
    by_cases hlt : i < (M.p k).n
    · have hdl := dels_le M (M.p k).f i
      rcases HR2.out with ⟨h0, _⟩ | ⟨sb, so, scap, ev, hsb, hsc⟩
      · omega
      injection ev with ev1 ev2 ev3
      subst ev1 ev3
      obtain ⟨s0, s1⟩ := hsc i hlt
      replace s0 := (hbr.cell (p := ⟨sb, so + i * 2, none⟩) hsb).trans s0
      replace s1 := (hbr.cell (p := ⟨sb, so + i * 2 + 1, none⟩) hsb).trans s1
      have i1 : (i : Int) < ((M.p k).n : Int) := by omega
      have i0 : (0 : Int) ≤ (i : Int) := by omega
      obtain ⟨id, hid⟩ : ∃ id : Int, id = ((M.p k).f i).1 := ⟨_, rfl⟩
      obtain ⟨ky, hky⟩ : ∃ ky : Int, ky = ((M.p k).f i).2 := ⟨_, rfl⟩
      rw [← hid] at s0
      rw [← hky] at s1
      have sb0 := s0
      have hbS := b_alloc1 (o := .cells #[.int .i64 id, .int .i64 ky] 73) hbr
      have hSv := heap_alloc_new wr (.cells #[.int .i64 id, .int .i64 ky] 73)
      have hMs := b_block hbS HMB.out lM
      have hXs := b_block hbS HXB.out lX
      have lS := lt_of_block hSv
      have lM2 := lt_of_block hMs
      have HHas := Lib.hid (fun (W : World) (_ : Below (wr.alloc (.cells #[.int .i64 id, .int .i64 ky] 73)).heap.size (wr.alloc (.cells #[.int .i64 id, .int .i64 ky] 73)) W) => l5Has_any (M := M) (tv := .slice ta M.tn tc) (pv := .slice (some ⟨pb, po, none⟩) M.pn qc) ⟨_, _, rfl⟩ htn id W)
      have kd := (Below.refl (wr.alloc (.cells #[.int .i64 id, .int .i64 ky] 73)).heap.size (wr.alloc (.cells #[.int .i64 id, .int .i64 ky] 73))).drew
      have HOK := Lib.hid hok
      have HID := Lib.hid hid
      have HKY := Lib.hid hky
      clear hok hid hky hsc
      cases hh : hasT M id
      · have hbad : slotsOkB M k (M.p k).e (M.p k).f (M.p k).n = false := slotsOk_bad (i := i) (by unfold slotOkB; rw [← HID.out, hh]; simp) _ hlt
        have HBAD := Lib.hid hbad
        have HH := Lib.hid hh
        clear hh hbad
        obtain ⟨C, hC⟩ : ∃ C : World → Prop, ∀ w', C w' ↔ (w'.cell? ⟨w.heap.size + 1, 0, none⟩ = some (.int .i64 M.c) ∧ w'.cell? ⟨w.heap.size + 1, 1, none⟩ = some (.slice ta M.tn tc) ∧ w'.cell? ⟨w.heap.size + 1, 2, none⟩ = some (.slice (some ⟨pb, po, none⟩) M.pn qc) ∧ w'.cell? ⟨wr.heap.size, 0, none⟩ = some (.int .i64 id) ∧ w'.cell? ⟨wr.heap.size, 1, none⟩ = some (.int .i64 ky) ∧ Below (wr.alloc (.cells #[.int .i64 id, .int .i64 ky] 73)).heap.size (wr.alloc (.cells #[.int .i64 id, .int .i64 ky] 73)) w') := ⟨_, fun _ => Iff.rfl⟩
        have hCin : ∀ w', Below (wr.alloc (.cells #[.int .i64 id, .int .i64 ky] 73)).heap.size (wr.alloc (.cells #[.int .i64 id, .int .i64 ky] 73)) w' → C w' := fun w' kd => (hC w').2 ⟨(kd.cell (p := ⟨w.heap.size + 1, 0, none⟩) lM2).trans (cell_of_block hMs 0), (kd.cell (p := ⟨w.heap.size + 1, 1, none⟩) lM2).trans (cell_of_block hMs 1), (kd.cell (p := ⟨w.heap.size + 1, 2, none⟩) lM2).trans (cell_of_block hMs 2), (kd.cell (p := ⟨wr.heap.size, 0, none⟩) lS).trans (cell_of_block hSv 0), (kd.cell (p := ⟨wr.heap.size, 1, none⟩) lS).trans (cell_of_block hSv 1), kd⟩
        have HCin := Lib.hid hCin
        have HC := Lib.hid hC
        have HCall := Lib.hid (show ∀ w', C w' → Calls Try.prog 53 #[meV M.c (.slice ta M.tn tc) (.slice (some ⟨pb, po, none⟩) M.pn qc), .int .i64 id] w' (fun e w'' => e = .returned (.bool false) ∧ C w'') from fun w' hw' => (HHas.out w' ((HC.out w').1 hw').2.2.2.2.2).mono (fun e w'' hx => ⟨hx.1.trans (by rw [HH.out]), HCin.out _ (((HC.out w').1 hw').2.2.2.2.2.trans (hx.2.mono ((HC.out w').1 hw').2.2.2.2.2.size))⟩))
        clear hC hCin
        go_wp2_with fail
        refine region_quietC (C := C) (by kernel_rfl) (by kernel_rfl) (HCin.out _ (Below.refl _ _).drew) ?_
        repeat (first
          | go_big_quiet_skip
          | (go_big_quiet_want; go_big_quiet_op; go_big_quiet_on)
          | (refine quiet_take (v := ?_) (by rfl) ?_ ?_
             rotate_left
             · intro w' hw'
               obtain ⟨q0, q1, q2, q3, q4, hbel⟩ := (HC.out w').1 hw'
               go_simp
               first
                 | done
                 | exact rfl
                 | exact HCall.out w' hw'
             simp only [Act.put, List.setIfInBounds_toArray, List.set_cons_zero, List.set_cons_succ]))
        refine wpQuiet_nil ?_
        intro wq hwq
        obtain ⟨q0, q1, q2, q3, q4, kd⟩ := (HC.out wq).1 hwq
        clear HHas
        go_wp2
        go_ret
        exact ⟨ret_bool' (by rw [HBAD.out]; rfl), kr.trans ((hbS.trans (kd.mono hbS.size)).mono kr.size)⟩
      obtain ⟨g0, g1⟩ := hasT_iff.1 hh
      rcases HT2.out with ⟨h0, _⟩ | ⟨tb, to, tcap, ev, htb, htc⟩
      · omega
      injection ev with ev1 ev2 ev3
      subst ev1 ev3
      obtain ⟨j, rfl⟩ : ∃ j : Nat, id = (j : Int) := ⟨id.toNat, by omega⟩
      have hj : j < M.tn := by omega
      have ht := htc j hj
      have htw : ∀ W : World, Below (wr.alloc (.cells #[.int .i64 (j : Int), .int .i64 ky] 73)).heap.size (wr.alloc (.cells #[.int .i64 (j : Int), .int .i64 ky] 73)) W → ∀ q, q < 8 → W.cell? ⟨tb, to + j * 8 + q, none⟩ = some (.int .i64 (tmAt (M.t j) q)) := fun W hW q hq => (hW.cell (p := ⟨tb, to + j * 8 + q, none⟩) (Nat.lt_of_lt_of_le htb hbS.size)).trans ((hbS.cell (p := ⟨tb, to + j * 8 + q, none⟩) htb).trans (ht q hq))
      have HTW := Lib.hid htw
      have HH := Lib.hid hh
      have hjn : (((M.p k).f i).1).toNat = j := by rw [← HID.out]; simp
      clear ht htw htc hh
      have ij0 : (0 : Int) ≤ (j : Int) := by omega
      have ij1 : (j : Int) < (M.tn : Int) := by omega
      by_cases hpl2 : (M.t j).pl = (k : Int)
      · have HPL := Lib.hid hpl2
        by_cases hwh : (M.t j).wh = ky
        · have HWH := Lib.hid hwh
          have HC4 := Lib.hid (show ∀ W : World, Below (wr.alloc (.cells #[.int .i64 (j : Int), .int .i64 ky] 73)).heap.size (wr.alloc (.cells #[.int .i64 (j : Int), .int .i64 ky] 73)) W → W.cell? ⟨tb, to + j * 8 + 4, none⟩ = some (.int .i64 (k : Int)) from fun W hW => (HTW.out W hW 4 (by decide)).trans (by rw [← hpl2]; rfl))
          have HC1 := Lib.hid (show ∀ W : World, Below (wr.alloc (.cells #[.int .i64 (j : Int), .int .i64 ky] 73)).heap.size (wr.alloc (.cells #[.int .i64 (j : Int), .int .i64 ky] 73)) W → W.cell? ⟨tb, to + j * 8 + 1, none⟩ = some (.int .i64 ky) from fun W hW => (HTW.out W hW 1 (by decide)).trans (by rw [← hwh]; rfl))
          clear hpl2 hwh
          obtain ⟨C, hC⟩ : ∃ C : World → Prop, ∀ w', C w' ↔ (w'.cell? ⟨w.heap.size + 1, 0, none⟩ = some (.int .i64 M.c) ∧ w'.cell? ⟨w.heap.size + 1, 1, none⟩ = some (.slice (some ⟨tb, to, none⟩) M.tn tc) ∧ w'.cell? ⟨w.heap.size + 1, 2, none⟩ = some (.slice (some ⟨pb, po, none⟩) M.pn qc) ∧ w'.cell? ⟨wr.heap.size, 0, none⟩ = some (.int .i64 (j : Int)) ∧ w'.cell? ⟨wr.heap.size, 1, none⟩ = some (.int .i64 ky) ∧ w'.cell? ⟨tb, to + j * 8 + 4, none⟩ = some (.int .i64 (k : Int)) ∧ w'.cell? ⟨tb, to + j * 8 + 1, none⟩ = some (.int .i64 ky) ∧ Below (wr.alloc (.cells #[.int .i64 (j : Int), .int .i64 ky] 73)).heap.size (wr.alloc (.cells #[.int .i64 (j : Int), .int .i64 ky] 73)) w') := ⟨_, fun _ => Iff.rfl⟩
          have hCin : ∀ w', Below (wr.alloc (.cells #[.int .i64 (j : Int), .int .i64 ky] 73)).heap.size (wr.alloc (.cells #[.int .i64 (j : Int), .int .i64 ky] 73)) w' → C w' := fun w' kd => (hC w').2 ⟨(kd.cell (p := ⟨w.heap.size + 1, 0, none⟩) lM2).trans (cell_of_block hMs 0), (kd.cell (p := ⟨w.heap.size + 1, 1, none⟩) lM2).trans (cell_of_block hMs 1), (kd.cell (p := ⟨w.heap.size + 1, 2, none⟩) lM2).trans (cell_of_block hMs 2), (kd.cell (p := ⟨wr.heap.size, 0, none⟩) lS).trans (cell_of_block hSv 0), (kd.cell (p := ⟨wr.heap.size, 1, none⟩) lS).trans (cell_of_block hSv 1), HC4.out _ kd, HC1.out _ kd, kd⟩
          have HCin := Lib.hid hCin
          have HC := Lib.hid hC
          have HCall := Lib.hid (show ∀ w', C w' → Calls Try.prog 53 #[meV M.c (.slice (some ⟨tb, to, none⟩) M.tn tc) (.slice (some ⟨pb, po, none⟩) M.pn qc), .int .i64 (j : Int)] w' (fun e w'' => e = .returned (.bool true) ∧ C w'') from fun w' hw' => (HHas.out w' ((HC.out w').1 hw').2.2.2.2.2.2.2).mono (fun e w'' hx => ⟨hx.1.trans (by rw [HH.out]), HCin.out _ (((HC.out w').1 hw').2.2.2.2.2.2.2.trans (hx.2.mono ((HC.out w').1 hw').2.2.2.2.2.2.2.size))⟩))
          clear hC hCin
          go_wp2_with fail
          refine region_quietC (C := C) (by kernel_rfl) (by kernel_rfl) (HCin.out _ (Below.refl _ _).drew) ?_
          repeat (first
            | go_big_quiet_skip
            | (go_big_quiet_want; go_big_quiet_op; go_big_quiet_on)
            | (refine quiet_take (v := ?_) (by rfl) ?_ ?_
               rotate_left
               · intro w' hw'
                 obtain ⟨q0, q1, q2, q3, q4, q5, q6, hbel⟩ := (HC.out w').1 hw'
                 go_simp
                 first
                   | done
                   | exact rfl
                   | exact HCall.out w' hw'
               simp only [Act.put, List.setIfInBounds_toArray, List.set_cons_zero, List.set_cons_succ]))
          refine wpQuiet_nil ?_
          intro wq hwq
          obtain ⟨q0, q1, q2, q3, q4, q5, q6, kd⟩ := (HC.out wq).1 hwq
          have hXq := b_block kd hXs (lt_of_block hXs)
          obtain ⟨x0, x1, x2, x3, _, _, _, _⟩ := four hXq
          obtain ⟨_, _, xa2, _, _, _, _, _⟩ := four (alloc_block (.cells (tmCells (M.t j)) 66) hXq)
          obtain ⟨d0, d1, d2, d3, d4, d5, d6, d7⟩ := cells8 (w := wq) (b := tb) (o := to + j * 8) (t := M.t j) (fun q hq => HTW.out wq kd q hq)
          have hbT : Below W2.heap.size W2 (wq.alloc (.cells (tmCells (M.t j)) 66)) := b_alloc1 (hbS.trans (kd.mono hbS.size))
          clear q5 q6 HHas HC4 HC1 HCall HC HCin hwq kd hXq hXs hMs hSv hbS hbr
          by_cases h5 : (M.t j).st = 5
          · have b5 : ((M.t j).st == 5) = true := by simpa using h5
            have b3 : ((M.t j).st == 3) = false := by rw [h5]; decide
            have HOKN := Lib.hid (show slotsOkB M k (M.p k).e (M.p k).f (i + 1) = true by
              rw [slotsOkB, HOK.out]; unfold slotOkB earlyOkB; rw [← HID.out, HH.out, ← HKY.out]; simp only [Int.toNat_natCast]; rw [HPL.out, HWH.out, b3]; simp)
            have HDEL := Lib.hid (show delsF M (M.p k).f i + 1 = delsF M (M.p k).f (i + 1) by rw [delsF, hjn, if_pos h5])
            clear h5
            go_wp2
            exact ⟨⟨i + 1, by omega, by go_num, congrArg (Value.int .i64) HDEL.out, HOKN.out, hbT⟩, by simp only [intOf]; omega⟩
          have b5 : ((M.t j).st == 5) = false := beq_eq_false_iff_ne.2 h5
          have HDEL := Lib.hid (show delsF M (M.p k).f i = delsF M (M.p k).f (i + 1) by rw [delsF, hjn, if_neg h5]; simp)
          by_cases h3 : (M.t j).st = 3
          · have b3 : ((M.t j).st == 3) = true := by simpa using h3
            clear h3 h5
            by_cases he : (M.p k).e < 0
            · have be : decide ((M.p k).e < 0) = true := by simpa using he
              have HBAD := Lib.hid (show slotsOkB M k (M.p k).e (M.p k).f (M.p k).n = false from slotsOk_bad (i := i) (by unfold earlyOkB; rw [← HID.out]; simp only [Int.toNat_natCast]; rw [b3, be]; simp) _ hlt)
              go_wp2
              go_ret
              exact ⟨ret_bool' (by rw [HBAD.out]; rfl), kr.trans (hbT.mono kr.size)⟩
            · have be : decide ((M.p k).e < 0) = false := by simpa using he
              by_cases hx : (M.t j).nx < (M.p k).e
              · have bx : decide ((M.t j).nx < (M.p k).e) = true := by simpa using hx
                have HBAD := Lib.hid (show slotsOkB M k (M.p k).e (M.p k).f (M.p k).n = false from slotsOk_bad (i := i) (by unfold earlyOkB; rw [← HID.out]; simp only [Int.toNat_natCast]; rw [b3, be, bx]; simp) _ hlt)
                go_wp2
                go_ret
                exact ⟨ret_bool' (by rw [HBAD.out]; rfl), kr.trans (hbT.mono kr.size)⟩
              · have bx : decide ((M.t j).nx < (M.p k).e) = false := by simpa using hx
                have HOKN := Lib.hid (show slotsOkB M k (M.p k).e (M.p k).f (i + 1) = true by
                  rw [slotsOkB, HOK.out]; unfold slotOkB earlyOkB; rw [← HID.out, HH.out, ← HKY.out]; simp only [Int.toNat_natCast]; rw [HPL.out, HWH.out, b3, be, bx]; simp)
                go_wp2
                exact ⟨⟨i + 1, by omega, by go_num, congrArg (Value.int .i64) HDEL.out, HOKN.out, hbT⟩, by simp only [intOf]; omega⟩
          · have b3 : ((M.t j).st == 3) = false := beq_eq_false_iff_ne.2 h3
            have HOKN := Lib.hid (show slotsOkB M k (M.p k).e (M.p k).f (i + 1) = true by
              rw [slotsOkB, HOK.out]; unfold slotOkB earlyOkB; rw [← HID.out, HH.out, ← HKY.out]; simp only [Int.toNat_natCast]; rw [HPL.out, HWH.out, b3]; simp)
            clear h3 h5
            go_wp2
            exact ⟨⟨i + 1, by omega, by go_num, congrArg (Value.int .i64) HDEL.out, HOKN.out, hbT⟩, by simp only [intOf]; omega⟩
        · have hwq : ((M.t j).wh == ky) = false := beq_eq_false_iff_ne.2 hwh
          have HC4 := Lib.hid (show ∀ W : World, Below (wr.alloc (.cells #[.int .i64 (j : Int), .int .i64 ky] 73)).heap.size (wr.alloc (.cells #[.int .i64 (j : Int), .int .i64 ky] 73)) W → W.cell? ⟨tb, to + j * 8 + 4, none⟩ = some (.int .i64 (k : Int)) from fun W hW => (HTW.out W hW 4 (by decide)).trans (by rw [← hpl2]; rfl))
          have HC1 := Lib.hid (show ∀ W : World, Below (wr.alloc (.cells #[.int .i64 (j : Int), .int .i64 ky] 73)).heap.size (wr.alloc (.cells #[.int .i64 (j : Int), .int .i64 ky] 73)) W → W.cell? ⟨tb, to + j * 8 + 1, none⟩ = some (.int .i64 (M.t j).wh) from fun W hW => (HTW.out W hW 1 (by decide)).trans (by rfl))
          have HBAD := Lib.hid (show slotsOkB M k (M.p k).e (M.p k).f (M.p k).n = false from slotsOk_bad (i := i) (by unfold slotOkB; rw [← HID.out, ← HKY.out]; simp only [Int.toNat_natCast]; rw [hwq]; simp) _ hlt)
          clear hpl2 hwh
          obtain ⟨C, hC⟩ : ∃ C : World → Prop, ∀ w', C w' ↔ (w'.cell? ⟨w.heap.size + 1, 0, none⟩ = some (.int .i64 M.c) ∧ w'.cell? ⟨w.heap.size + 1, 1, none⟩ = some (.slice (some ⟨tb, to, none⟩) M.tn tc) ∧ w'.cell? ⟨w.heap.size + 1, 2, none⟩ = some (.slice (some ⟨pb, po, none⟩) M.pn qc) ∧ w'.cell? ⟨wr.heap.size, 0, none⟩ = some (.int .i64 (j : Int)) ∧ w'.cell? ⟨wr.heap.size, 1, none⟩ = some (.int .i64 ky) ∧ w'.cell? ⟨tb, to + j * 8 + 4, none⟩ = some (.int .i64 (k : Int)) ∧ w'.cell? ⟨tb, to + j * 8 + 1, none⟩ = some (.int .i64 (M.t j).wh) ∧ Below (wr.alloc (.cells #[.int .i64 (j : Int), .int .i64 ky] 73)).heap.size (wr.alloc (.cells #[.int .i64 (j : Int), .int .i64 ky] 73)) w') := ⟨_, fun _ => Iff.rfl⟩
          have hCin : ∀ w', Below (wr.alloc (.cells #[.int .i64 (j : Int), .int .i64 ky] 73)).heap.size (wr.alloc (.cells #[.int .i64 (j : Int), .int .i64 ky] 73)) w' → C w' := fun w' kd => (hC w').2 ⟨(kd.cell (p := ⟨w.heap.size + 1, 0, none⟩) lM2).trans (cell_of_block hMs 0), (kd.cell (p := ⟨w.heap.size + 1, 1, none⟩) lM2).trans (cell_of_block hMs 1), (kd.cell (p := ⟨w.heap.size + 1, 2, none⟩) lM2).trans (cell_of_block hMs 2), (kd.cell (p := ⟨wr.heap.size, 0, none⟩) lS).trans (cell_of_block hSv 0), (kd.cell (p := ⟨wr.heap.size, 1, none⟩) lS).trans (cell_of_block hSv 1), HC4.out _ kd, HC1.out _ kd, kd⟩
          have HCin := Lib.hid hCin
          have HC := Lib.hid hC
          have HCall := Lib.hid (show ∀ w', C w' → Calls Try.prog 53 #[meV M.c (.slice (some ⟨tb, to, none⟩) M.tn tc) (.slice (some ⟨pb, po, none⟩) M.pn qc), .int .i64 (j : Int)] w' (fun e w'' => e = .returned (.bool true) ∧ C w'') from fun w' hw' => (HHas.out w' ((HC.out w').1 hw').2.2.2.2.2.2.2).mono (fun e w'' hx => ⟨hx.1.trans (by rw [HH.out]), HCin.out _ (((HC.out w').1 hw').2.2.2.2.2.2.2.trans (hx.2.mono ((HC.out w').1 hw').2.2.2.2.2.2.2.size))⟩))
          clear hC hCin
          go_wp2_with fail
          refine region_quietC (C := C) (by kernel_rfl) (by kernel_rfl) (HCin.out _ (Below.refl _ _).drew) ?_
          repeat (first
            | go_big_quiet_skip
            | (go_big_quiet_want; go_big_quiet_op; go_big_quiet_on)
            | (refine quiet_take (v := ?_) (by rfl) ?_ ?_
               rotate_left
               · intro w' hw'
                 obtain ⟨q0, q1, q2, q3, q4, q5, q6, hbel⟩ := (HC.out w').1 hw'
                 go_simp
                 first
                   | done
                   | exact rfl
                   | exact HCall.out w' hw'
               simp only [Act.put, List.setIfInBounds_toArray, List.set_cons_zero, List.set_cons_succ]))
          refine wpQuiet_nil ?_
          intro wq hwq
          obtain ⟨q0, q1, q2, q3, q4, q5, q6, kd⟩ := (HC.out wq).1 hwq
          clear HHas
          go_wp2
          go_ret
          exact ⟨ret_bool' (by rw [HBAD.out]; rfl), kr.trans ((hbS.trans (kd.mono hbS.size)).mono kr.size)⟩
      · have hpq : ((M.t j).pl == (k : Int)) = false := beq_eq_false_iff_ne.2 hpl2
        have hpq2 : ((M.t j).pl != (k : Int)) = true := by rw [bne, hpq]; rfl
        have HC4 := Lib.hid (show ∀ W : World, Below (wr.alloc (.cells #[.int .i64 (j : Int), .int .i64 ky] 73)).heap.size (wr.alloc (.cells #[.int .i64 (j : Int), .int .i64 ky] 73)) W → W.cell? ⟨tb, to + j * 8 + 4, none⟩ = some (.int .i64 (M.t j).pl) from fun W hW => (HTW.out W hW 4 (by decide)).trans (by rfl))
        have HC1 := Lib.hid (show ∀ W : World, Below (wr.alloc (.cells #[.int .i64 (j : Int), .int .i64 ky] 73)).heap.size (wr.alloc (.cells #[.int .i64 (j : Int), .int .i64 ky] 73)) W → W.cell? ⟨tb, to + j * 8 + 1, none⟩ = some (.int .i64 (M.t j).wh) from fun W hW => (HTW.out W hW 1 (by decide)).trans (by rfl))
        have HBAD := Lib.hid (show slotsOkB M k (M.p k).e (M.p k).f (M.p k).n = false from slotsOk_bad (i := i) (by unfold slotOkB; rw [← HID.out]; simp only [Int.toNat_natCast]; rw [hpq]; simp) _ hlt)
        clear hpl2
        obtain ⟨C, hC⟩ : ∃ C : World → Prop, ∀ w', C w' ↔ (w'.cell? ⟨w.heap.size + 1, 0, none⟩ = some (.int .i64 M.c) ∧ w'.cell? ⟨w.heap.size + 1, 1, none⟩ = some (.slice (some ⟨tb, to, none⟩) M.tn tc) ∧ w'.cell? ⟨w.heap.size + 1, 2, none⟩ = some (.slice (some ⟨pb, po, none⟩) M.pn qc) ∧ w'.cell? ⟨wr.heap.size, 0, none⟩ = some (.int .i64 (j : Int)) ∧ w'.cell? ⟨wr.heap.size, 1, none⟩ = some (.int .i64 ky) ∧ w'.cell? ⟨tb, to + j * 8 + 4, none⟩ = some (.int .i64 (M.t j).pl) ∧ w'.cell? ⟨tb, to + j * 8 + 1, none⟩ = some (.int .i64 (M.t j).wh) ∧ Below (wr.alloc (.cells #[.int .i64 (j : Int), .int .i64 ky] 73)).heap.size (wr.alloc (.cells #[.int .i64 (j : Int), .int .i64 ky] 73)) w') := ⟨_, fun _ => Iff.rfl⟩
        have hCin : ∀ w', Below (wr.alloc (.cells #[.int .i64 (j : Int), .int .i64 ky] 73)).heap.size (wr.alloc (.cells #[.int .i64 (j : Int), .int .i64 ky] 73)) w' → C w' := fun w' kd => (hC w').2 ⟨(kd.cell (p := ⟨w.heap.size + 1, 0, none⟩) lM2).trans (cell_of_block hMs 0), (kd.cell (p := ⟨w.heap.size + 1, 1, none⟩) lM2).trans (cell_of_block hMs 1), (kd.cell (p := ⟨w.heap.size + 1, 2, none⟩) lM2).trans (cell_of_block hMs 2), (kd.cell (p := ⟨wr.heap.size, 0, none⟩) lS).trans (cell_of_block hSv 0), (kd.cell (p := ⟨wr.heap.size, 1, none⟩) lS).trans (cell_of_block hSv 1), HC4.out _ kd, HC1.out _ kd, kd⟩
        have HCin := Lib.hid hCin
        have HC := Lib.hid hC
        have HCall := Lib.hid (show ∀ w', C w' → Calls Try.prog 53 #[meV M.c (.slice (some ⟨tb, to, none⟩) M.tn tc) (.slice (some ⟨pb, po, none⟩) M.pn qc), .int .i64 (j : Int)] w' (fun e w'' => e = .returned (.bool true) ∧ C w'') from fun w' hw' => (HHas.out w' ((HC.out w').1 hw').2.2.2.2.2.2.2).mono (fun e w'' hx => ⟨hx.1.trans (by rw [HH.out]), HCin.out _ (((HC.out w').1 hw').2.2.2.2.2.2.2.trans (hx.2.mono ((HC.out w').1 hw').2.2.2.2.2.2.2.size))⟩))
        clear hC hCin
        go_wp2_with fail
        refine region_quietC (C := C) (by kernel_rfl) (by kernel_rfl) (HCin.out _ (Below.refl _ _).drew) ?_
        repeat (first
          | go_big_quiet_skip
          | (go_big_quiet_want; go_big_quiet_op; go_big_quiet_on)
          | (refine quiet_take (v := ?_) (by rfl) ?_ ?_
             rotate_left
             · intro w' hw'
               obtain ⟨q0, q1, q2, q3, q4, q5, q6, hbel⟩ := (HC.out w').1 hw'
               go_simp
               first
                 | done
                 | exact rfl
                 | exact HCall.out w' hw'
             simp only [Act.put, List.setIfInBounds_toArray, List.set_cons_zero, List.set_cons_succ]))
        refine wpQuiet_nil ?_
        intro wq hwq
        obtain ⟨q0, q1, q2, q3, q4, q5, q6, kd⟩ := (HC.out wq).1 hwq
        clear HHas
        go_wp2
        go_ret
        exact ⟨ret_bool' (by rw [HBAD.out]; rfl), kr.trans ((hbS.trans (kd.mono hbS.size)).mono kr.size)⟩
    · have hin : i = (M.p k).n := by omega
      have HOK := Lib.hid hok
      have HIN := Lib.hid hin
      have hlt2 : ¬ (i : Int) < ((M.p k).n : Int) := by omega
      clear hok hin
      go_wp2
      go_ret
      exact ⟨ret_bool' (by rw [← HIN.out, HOK.out, Bool.true_and]), kr.trans (hbr.mono kr.size)⟩

end Go.Proofs.Ytpgfffmojcaocaa

/-
  Memories (spec, chapter 5): is a memory right?
-/
namespace Go.Proofs.Ytpgfffmojcaocaa
open Go.RowKit Go.Joins
set_option linter.unusedVariables false

def allB (g : Nat → Bool) : Nat → Bool
  | 0 => true
  | k + 1 => allB g k && g k
theorem allB_bad {g : Nat → Bool} {i : Nat} (h : g i = false) : ∀ n, i < n → allB g n = false
  | 0, hn => absurd hn (Nat.not_lt_zero _)
  | n + 1, hn => by
    rw [allB]
    by_cases e : i = n
    · subst e; rw [h, Bool.and_false]
    · rw [allB_bad h n (by omega), Bool.false_and]
theorem allB_at {g : Nat → Bool} : ∀ {n : Nat}, allB g n = true → ∀ i, i < n → g i = true
  | 0, _, i, hi => absurd hi (Nat.not_lt_zero _)
  | n + 1, h, i, hi => by
    rw [allB, Bool.and_eq_true] at h
    by_cases e : i = n
    · subst e; exact h.2
    · exact allB_at h.1 i (by omega)
/-- does the timer stand where it says? -/
def fitB (a b c : Int) (M : Me) (i : Nat) : Bool :=
  timerB a b c (M.t i) && ((M.t i).pl == -1 || !decide (findFrom (M.p (M.t i).pl.toNat).f (M.p (M.t i).pl.toNat).n (i : Int) 0 < 0))
/-- is the memory right? -/
def memOkB (a b c : Int) (M : Me) : Bool :=
  planB a b c && (inB M.c 0 999999999 && (!decide (c < (M.tn : Int)) && ((M.pn : Int) == a && (allB (agreeB a b c M) M.pn && allB (fitB a b c M) M.tn))))
theorem timerB_pl {a b c : Int} {t : Tm} (h : timerB a b c t = true) : t.pl = -1 ∨ 0 ≤ t.pl ∧ t.pl < a := by
  simp only [timerB, placeB, Bool.and_eq_true] at h
  have hp := h.2.2.2.2.2.2.2.2.1
  split at hp
  · have := (procB_iff.1 hp).2; exact .inr (by omega)
  · rw [Bool.or_eq_true, Bool.and_eq_true] at hp
    rcases hp with hp | ⟨_, hp⟩
    · exact .inl (by simpa using hp)
    · have := (procB_iff.1 hp).2; exact .inr (by omega)

theorem tm_cells {w : World} {b : Nat} {t : Tm} {ty : TypeId} (h : w.heap[b]? = some (.cells (tmCells t) ty (0, 0))) :
    w.cell? ⟨b, 0, none⟩ = some (.int .i64 t.st) ∧ w.cell? ⟨b, 1, none⟩ = some (.int .i64 t.wh) ∧ w.cell? ⟨b, 2, none⟩ = some (.int .i64 t.nx) ∧ w.cell? ⟨b, 3, none⟩ = some (.int .i64 t.pe) ∧ w.cell? ⟨b, 4, none⟩ = some (.int .i64 t.pl) ∧ w.cell? ⟨b, 5, none⟩ = some (.int .i64 t.ge) ∧ w.cell? ⟨b, 6, none⟩ = some (.int .i64 t.ki) ∧ w.cell? ⟨b, 7, none⟩ = some (.int .i64 t.ma) :=
  ⟨cell_of_block h 0, cell_of_block h 1, cell_of_block h 2, cell_of_block h 3, cell_of_block h 4, cell_of_block h 5, cell_of_block h 6, cell_of_block h 7⟩

set_option maxRecDepth 100000 in
set_option maxHeartbeats 8000000 in
theorem spMemOk_any (a b c : Int) {tv pv : Value} {M : Me} {w : World} (hs : sizeM M ≤ 1048576) (h : MemAt w tv pv M) :
    Calls Try.prog 14 #[.agg #[.int .i64 a, .int .i64 b, .int .i64 c], meV M.c tv pv] w fun e w' => e = .returned (.bool (memOkB a b c M)) ∧ Below w.heap.size w w' := by
  obtain ⟨htn, hpn, hsl, hns⟩ := sizeM_le hs
  obtain ⟨ta, tc, qa, qc, rfl, rfl⟩ := h.form
  have k0 := (Below.refl w.heap.size w).alloc (Nat.le_refl _) (.cells #[.int .i64 a, .int .i64 b, .int .i64 c] 35)
  have e0 : (w.alloc (.cells #[.int .i64 a, .int .i64 b, .int .i64 c] 35)).heap.size = w.heap.size + 1 := by simp
  have k1 := k0.alloc (by omega) (memO M.c (.slice ta M.tn tc) (.slice qa M.pn qc) 32)
  have hPv := alloc_block (memO M.c (.slice ta M.tn tc) (.slice qa M.pn qc) 32) (heap_alloc_new w (.cells #[.int .i64 a, .int .i64 b, .int .i64 c] 35))
  have hMv := heap_alloc_new (w.alloc (.cells #[.int .i64 a, .int .i64 b, .int .i64 c] 35)) (memO M.c (.slice ta M.tn tc) (.slice qa M.pn qc) 32)
  rw [e0] at hMv
  have HM := Lib.hid h
  have HS := Lib.hid hs
  clear h k0 e0 hsl hns hs
  cases hp : planB a b c
  · rw [show memOkB a b c M = false by unfold memOkB; rw [hp, Bool.false_and]]
    have HP := Lib.hid hp
    clear hp
    go_enter Try.func14, Try.ntmps14
    go_wp2_with fail
    go_at_call 31; refine (spPlanOk_any _ _ _ _).mono ?_; rw [HP.out]; rintro x w1 ⟨rfl, hb⟩
    go_wp2
    go_ret
    exact ⟨rfl, k1.trans (hb.mono k1.size)⟩
  have HP := Lib.hid hp
  cases hc : inB M.c 0 999999999
  · rw [show memOkB a b c M = false by unfold memOkB; rw [hc, Bool.false_and, Bool.and_false]]
    have HC := Lib.hid hc
    clear hp hc
    go_enter Try.func14, Try.ntmps14
    go_wp2_with fail
    go_at_call 31; refine (spPlanOk_any _ _ _ _).mono ?_; rw [HP.out]; rintro x w1 ⟨rfl, hb⟩
    have hM1 := b_block hb hMv (lt_of_block hMv)
    obtain ⟨m0, m1, m2, _, _, _⟩ := three hM1
    go_wp2_with fail
    go_at_call 32; refine (l1In_any _ _ _ _).mono ?_; rw [HC.out]; rintro x w1 ⟨rfl, rfl⟩
    go_wp2
    go_ret
    exact ⟨rfl, k1.trans (hb.mono k1.size)⟩
  have HC := Lib.hid hc
  by_cases hct : c < (M.tn : Int)
  · rw [show memOkB a b c M = false by unfold memOkB; rw [hp, hc]; simp [hct]]
    have bct : decide (c < (M.tn : Int)) = true := by simpa using hct
    clear hp hc
    go_enter Try.func14, Try.ntmps14
    go_wp2_with fail
    go_at_call 31; refine (spPlanOk_any _ _ _ _).mono ?_; rw [HP.out]; rintro x w1 ⟨rfl, hb⟩
    have hM1 := b_block hb hMv (lt_of_block hMv)
    obtain ⟨m0, m1, m2, _, _, _⟩ := three hM1
    have hP1 := b_block hb hPv (lt_of_block hPv)
    obtain ⟨p0, p1, p2, _, _, _⟩ := three hP1
    go_wp2_with fail
    go_at_call 32; refine (l1In_any _ _ _ _).mono ?_; rw [HC.out]; rintro x w1 ⟨rfl, rfl⟩
    go_wp2
    go_ret
    exact ⟨rfl, k1.trans (hb.mono k1.size)⟩
  have bct : decide (c < (M.tn : Int)) = false := by simpa using hct
  by_cases hpa : (M.pn : Int) = a
  · have hval : memOkB a b c M = (allB (agreeB a b c M) M.pn && allB (fitB a b c M) M.tn) := by unfold memOkB; rw [hp, hc, bct]; simp [hpa]
    rw [hval]
    clear hp hc hval
    subst hpa
    have bpa : ((M.pn : Int) == (M.pn : Int)) = true := by simp
    go_enter Try.func14, Try.ntmps14
    go_wp2_with fail
    go_at_call 31; refine (spPlanOk_any _ _ _ _).mono ?_; rw [HP.out]; rintro x W1 ⟨rfl, hb⟩
    have hM1 := b_block hb hMv (lt_of_block hMv)
    have hP1 := b_block hb hPv (lt_of_block hPv)
    have kr := k1.trans (hb.mono k1.size)
    have HM1 := Lib.hid (HM.out.below kr)
    have lM := lt_of_block hM1
    have lP := lt_of_block hP1
    have HMB := Lib.hid hM1
    have HPB := Lib.hid hP1
    clear hb hMv hPv k1
    obtain ⟨m0, m1, m2, _, _, _⟩ := three hM1
    obtain ⟨p0, p1, p2, _, _, _⟩ := three hP1
    clear hM1 hP1
    go_wp2_with fail
    go_at_call 32; refine (l1In_any _ _ _ _).mono ?_; rw [HC.out]; rintro x w1 ⟨rfl, rfl⟩
    go_wp2_with fail
    go_loopw [5] (fun i' wr => ∃ k : Nat, k ≤ M.pn ∧ i' = .int .i64 k ∧ allB (agreeB M.pn b c M) k = true ∧ Below W1.heap.size W1 wr) (fun i' _ => M.pn - (intOf i').toNat)
    case atStart => exact ⟨0, Nat.zero_le _, rfl, rfl, Below.refl _ _⟩
    case round =>
      obtain ⟨k, hk, rfl, hok, hbr⟩ := hrel
      clear m0 m1 m2 p0 p1 p2
      obtain ⟨p0, p1, p2, _, _, _⟩ := three (b_block hbr HPB.out lP)
      obtain ⟨m0, m1, m2, _, _, _⟩ := three (b_block hbr HMB.out lM)
      by_cases hlt : k < M.pn
      · have i1 : (k : Int) < (M.pn : Int) := by omega
        have i0 : (0 : Int) ≤ (k : Int) := by omega
        have HOK := Lib.hid hok
        have CP := l5Proc_any (M.pn : Int) b c (k := k) hlt HS.out (HM1.out.below hbr)
        have HCP := Lib.hid CP
        clear hok CP
        cases hag : agreeB (M.pn : Int) b c M k
        · have HBAD := Lib.hid (show (allB (agreeB M.pn b c M) M.pn && allB (fitB M.pn b c M) M.tn) = false by rw [allB_bad hag _ hlt, Bool.false_and])
          have HAG := Lib.hid hag
          clear hag
          go_wp2_with fail
          go_at_call 33; refine HCP.out.mono ?_; rw [HAG.out]; rintro x w2 ⟨rfl, hb⟩
          go_wp2
          go_ret
          exact ⟨ret_bool' (by rw [HBAD.out]), kr.trans ((hbr.trans (hb.mono hbr.size)).mono kr.size)⟩
        · have HOKN := Lib.hid (show allB (agreeB M.pn b c M) (k + 1) = true by rw [allB, HOK.out, hag]; rfl)
          have HAG := Lib.hid hag
          clear hag
          go_wp2_with fail
          go_at_call 33; refine HCP.out.mono ?_; rw [HAG.out]; rintro x w2 ⟨rfl, hb⟩
          have hbn := hbr.trans (hb.mono hbr.size)
          clear hb
          go_wp2
          exact ⟨⟨k + 1, by omega, by go_num, HOKN.out, hbn⟩, by simp only [intOf]; omega⟩
      · have hkn : k = M.pn := by omega
        subst hkn
        have HALL := Lib.hid hok
        have hge : ¬ ((M.pn : Nat) : Int) < ((M.pn : Nat) : Int) := by omega
        clear hok hlt hk
        go_wp2_with fail
        go_loopw [6] (fun i' ws => ∃ i : Nat, i ≤ M.tn ∧ i' = .int .i64 i ∧ allB (fitB M.pn b c M) i = true ∧ Below W1.heap.size W1 ws) (fun i' _ => M.tn - (intOf i').toNat)
        case atStart => exact ⟨0, Nat.zero_le _, rfl, rfl, hbr⟩
        case round =>
          obtain ⟨i, hi, rfl, hok2, hbq⟩ := hrel
          clear m0 m1 m2 p0 p1 p2
          obtain ⟨m0, m1, m2, _, _, _⟩ := three (b_block hbq HMB.out lM)
          by_cases hlt : i < M.tn
          · have i1 : (i : Int) < (M.tn : Int) := by omega
            have i0 : (0 : Int) ≤ (i : Int) := by omega
            have HOK2 := Lib.hid hok2
            rcases HM1.out.1 with ⟨h0, _⟩ | ⟨tb, to, tcap, ev, htb, htc⟩
            · omega
            injection ev with ev1 ev2 ev3
            subst ev1 ev3
            obtain ⟨d0, d1, d2, d3, d4, d5, d6, d7⟩ := cells8 (w := _) (b := tb) (o := to + i * 8) (t := M.t i) (fun q hq => (hbq.cell (p := ⟨tb, to + i * 8 + q, none⟩) htb).trans (htc i hlt q hq))
            have hTv := heap_alloc_new wr (.cells (tmCells (M.t i)) 66)
            have hbT := b_alloc1 (o := (.cells (tmCells (M.t i)) 66)) hbq
            obtain ⟨p0, p1, p2, _, _, _⟩ := three (b_block hbT HPB.out lP)
            clear hok2 htc m0 m1 m2
            obtain ⟨m0, m1, m2, _, _, _⟩ := three (b_block hbq HMB.out lM)
            cases hf : timerB (M.pn : Int) b c (M.t i)
            · have HF := Lib.hid hf
              have HBAD := Lib.hid (show (allB (agreeB M.pn b c M) M.pn && allB (fitB M.pn b c M) M.tn) = false by rw [allB_bad (i := i) (by unfold fitB; rw [hf, Bool.false_and]) _ hlt, Bool.and_false])
              clear hf
              go_wp2_with fail
              go_at_call 34; refine (spTimerOk_any _ _ _ (M.t i) _).mono ?_; rw [HF.out]; rintro x w2 ⟨rfl, hb⟩
              have hb2 := hbT.trans (hb.mono hbT.size)
              clear m0 m1 m2
              obtain ⟨t0, t1, t2, t3, t4, t5, t6, t7⟩ := tm_cells (t := M.t i) (b_block hb hTv (lt_of_block hTv))
              obtain ⟨m0, m1, m2, _, _, _⟩ := three (b_block hb2 HMB.out lM)
              go_wp2
              go_ret
              exact ⟨ret_bool' (by rw [HBAD.out]), kr.trans (hb2.mono kr.size)⟩
            · have HF := Lib.hid hf
              rcases timerB_pl hf with hpl | ⟨q0, q1⟩
              · have bpl : ((M.t i).pl == -1) = true := by rw [hpl]; decide
                have bpln : ((M.t i).pl != -1) = false := by rw [bne, bpl]; rfl
                have HOKN := Lib.hid (show allB (fitB M.pn b c M) (i + 1) = true by rw [allB, HOK2.out]; unfold fitB; rw [HF.out, bpl]; rfl)
                clear hf hpl
                go_wp2_with fail
                go_at_call 34; refine (spTimerOk_any _ _ _ (M.t i) _).mono ?_; rw [HF.out]; rintro x w2 ⟨rfl, hb⟩
                have hb2 := hbT.trans (hb.mono hbT.size)
                clear m0 m1 m2
                obtain ⟨t0, t1, t2, t3, t4, t5, t6, t7⟩ := tm_cells (t := M.t i) (b_block hb hTv (lt_of_block hTv))
                obtain ⟨m0, m1, m2, _, _, _⟩ := three (b_block hb2 HMB.out lM)
                go_wp2
                exact ⟨⟨i + 1, by omega, by go_num, HOKN.out, hb2⟩, by simp only [intOf]; omega⟩
              · obtain ⟨j, hj⟩ : ∃ j : Nat, (M.t i).pl = (j : Int) := ⟨(M.t i).pl.toNat, by omega⟩
                have hjn : (M.t i).pl.toNat = j := by omega
                have hjl : j < M.pn := by omega
                have ij0 : (0 : Int) ≤ (j : Int) := by omega
                have ij1 : (j : Int) < (M.pn : Int) := by omega
                have bpl : ((j : Int) == -1) = false := beq_eq_false_iff_ne.2 (by omega)
                have bpl2 : ((M.t i).pl == -1) = false := by rw [hj]; exact bpl
                have bpln : ((j : Int) != -1) = true := by rw [bne, bpl]; rfl
                rcases HM1.out.2 with ⟨h0, _⟩ | ⟨pb, po, pcap, ev, hpb, hpc⟩
                · omega
                injection ev with ev1 ev2 ev3
                subst ev1 ev3
                have hns := (sizeM_le HS.out).2.2.2 j hjl
                have HPC := Lib.hid (hpc j hjl)
                have HJN := Lib.hid hjn
                have HJ := Lib.hid hj
                clear hf q0 q1 hpc hjn hj
                by_cases hr : findFrom (M.p j).f (M.p j).n (i : Int) 0 < 0
                · have br : decide (findFrom (M.p j).f (M.p j).n (i : Int) 0 < 0) = true := by simpa using hr
                  have HBAD := Lib.hid (show (allB (agreeB M.pn b c M) M.pn && allB (fitB M.pn b c M) M.tn) = false by rw [allB_bad (i := i) (by unfold fitB; rw [HJN.out, HF.out, bpl2, br]; rfl) _ hlt, Bool.and_false])
                  clear hr bpl2
                  go_wp2_with fail
                  go_at_call 34; refine (spTimerOk_any _ _ _ (M.t i) _).mono ?_; rw [HF.out]; rintro x w2 ⟨rfl, hb⟩
                  have hb2 := hbT.trans (hb.mono hbT.size)
                  clear m0 m1 m2
                  obtain ⟨t0, t1, t2, t3, t4, t5, t6, t7⟩ := tm_cells (t := M.t i) (b_block hb hTv (lt_of_block hTv))
                  obtain ⟨m0, m1, m2, _, _, _⟩ := three (b_block hb2 HMB.out lM)
                  obtain ⟨xa, xc, c0, c1, c2, c3, hrow⟩ := HPC.out.below hpb hb2
                  rw [HJ.out] at t4
                  have HROW := Lib.hid hrow
                  clear hrow
                  go_wp2_with fail
                  go_at_call 35; refine (spFindSlot_any _ _ hns HROW.out).mono ?_; rintro x w3 ⟨rfl, rfl⟩
                  go_wp2
                  go_ret
                  exact ⟨ret_bool' (by rw [HBAD.out]), kr.trans (hb2.mono kr.size)⟩
                · have br : decide (findFrom (M.p j).f (M.p j).n (i : Int) 0 < 0) = false := by simpa using hr
                  have HOKN := Lib.hid (show allB (fitB M.pn b c M) (i + 1) = true by rw [allB, HOK2.out]; unfold fitB; rw [HJN.out, HF.out, bpl2, br]; rfl)
                  clear hr bpl2
                  go_wp2_with fail
                  go_at_call 34; refine (spTimerOk_any _ _ _ (M.t i) _).mono ?_; rw [HF.out]; rintro x w2 ⟨rfl, hb⟩
                  have hb2 := hbT.trans (hb.mono hbT.size)
                  clear m0 m1 m2
                  obtain ⟨t0, t1, t2, t3, t4, t5, t6, t7⟩ := tm_cells (t := M.t i) (b_block hb hTv (lt_of_block hTv))
                  obtain ⟨m0, m1, m2, _, _, _⟩ := three (b_block hb2 HMB.out lM)
                  obtain ⟨xa, xc, c0, c1, c2, c3, hrow⟩ := HPC.out.below hpb hb2
                  rw [HJ.out] at t4
                  have HROW := Lib.hid hrow
                  clear hrow
                  go_wp2_with fail
                  go_at_call 35; refine (spFindSlot_any _ _ hns HROW.out).mono ?_; rintro x w3 ⟨rfl, rfl⟩
                  go_wp2
                  exact ⟨⟨i + 1, by omega, by go_num, HOKN.out, hb2⟩, by simp only [intOf]; omega⟩
          · have hin : i = M.tn := by omega
            have HOK2 := Lib.hid hok2
            have HIN := Lib.hid hin
            have hlt2 : ¬ (i : Int) < (M.tn : Int) := by omega
            clear hok2 hin
            go_wp2
            go_ret
            exact ⟨ret_bool' (by rw [HALL.out, ← HIN.out, HOK2.out]; rfl), kr.trans (hbq.mono kr.size)⟩
  · have bpa : ((M.pn : Int) == a) = false := beq_eq_false_iff_ne.2 hpa
    rw [show memOkB a b c M = false by unfold memOkB; rw [hp, hc, bct, bpa]; simp]
    clear hp hc
    go_enter Try.func14, Try.ntmps14
    go_wp2_with fail
    go_at_call 31; refine (spPlanOk_any _ _ _ _).mono ?_; rw [HP.out]; rintro x w1 ⟨rfl, hb⟩
    have hM1 := b_block hb hMv (lt_of_block hMv)
    obtain ⟨m0, m1, m2, _, _, _⟩ := three hM1
    have hP1 := b_block hb hPv (lt_of_block hPv)
    obtain ⟨p0, p1, p2, _, _, _⟩ := three hP1
    go_wp2_with fail
    go_at_call 32; refine (l1In_any _ _ _ _).mono ?_; rw [HC.out]; rintro x w1 ⟨rfl, rfl⟩
    go_wp2
    go_ret
    exact ⟨rfl, k1.trans (hb.mono k1.size)⟩

end Go.Proofs.Ytpgfffmojcaocaa

/-
  The same, in the program.
-/
namespace Go.Proofs.Ytpgfffmojcaocaa
open Go.RowKit
set_option linter.unusedVariables false

set_option maxHeartbeats 400000 in
theorem within_any (n lo hi : Int) (w : World) :
    Calls Try.prog 44 #[.int .i64 n, .int .i64 lo, .int .i64 hi] w fun e w' => e = .returned (.bool (inB n lo hi)) ∧ w = w' := by
  by_cases h1 : lo ≤ n
  · by_cases h2 : n ≤ hi
    · rw [inB_t h1 h2]
      go_enter Try.func44, Try.ntmps44
      go_wp2
      go_ret
      exact ⟨rfl, rfl⟩
    · rw [inB_hi h2]
      go_enter Try.func44, Try.ntmps44
      go_wp2
      go_ret
      exact ⟨rfl, rfl⟩
  · rw [inB_lo h1]
    go_enter Try.func44, Try.ntmps44
    go_wp2
    go_ret
    exact ⟨rfl, rfl⟩

end Go.Proofs.Ytpgfffmojcaocaa

/-
  Plans, times and processors, in the program.
-/
namespace Go.Proofs.Ytpgfffmojcaocaa
open Go.RowKit
set_option linter.unusedVariables false

set_option maxHeartbeats 400000 in
theorem right_any (a b c : Int) (w : World) :
    Calls Try.prog 43 #[.agg #[.int .i64 a, .int .i64 b, .int .i64 c]] w fun e w' => e = .returned (.bool (planB a b c)) ∧ Below w.heap.size w w' := by
  cases h1 : inB a 1 6
  · have hp : planB a b c = false := by simp [planB, h1]
    rw [hp]
    go_enter Try.func43, Try.ntmps43
    go_wp2_with (go_at_call 44; refine (within_any _ _ _ _).mono ?_; rintro e w' ⟨rfl, rfl⟩)
    go_ret
    exact ⟨rfl, (Below.refl _ _).alloc (Nat.le_refl _) _⟩
  · cases h2 : inB b 1 8
    · have hp : planB a b c = false := by simp [planB, h1, h2]
      rw [hp]
      go_enter Try.func43, Try.ntmps43
      go_wp2_with (go_at_call 44; refine (within_any _ _ _ _).mono ?_; rintro e w' ⟨rfl, rfl⟩)
      go_ret
      exact ⟨rfl, (Below.refl _ _).alloc (Nat.le_refl _) _⟩
    · cases h3 : inB c 1 30
      · have hp : planB a b c = false := by simp [planB, h1, h2, h3]
        rw [hp]
        go_enter Try.func43, Try.ntmps43
        go_wp2_with (go_at_call 44; refine (within_any _ _ _ _).mono ?_; rintro e w' ⟨rfl, rfl⟩)
        go_ret
        exact ⟨rfl, (Below.refl _ _).alloc (Nat.le_refl _) _⟩
      · have hp : planB a b c = true := by simp [planB, h1, h2, h3]
        rw [hp]
        go_enter Try.func43, Try.ntmps43
        go_wp2_with (go_at_call 44; refine (within_any _ _ _ _).mono ?_; rintro e w' ⟨rfl, rfl⟩)
        go_ret
        exact ⟨rfl, (Below.refl _ _).alloc (Nat.le_refl _) _⟩

set_option maxHeartbeats 400000 in
theorem isTime_any (t : Int) (w : World) :
    Calls Try.prog 84 #[.int .i64 t] w fun e w' => e = .returned (.bool (inB t 0 1000000000)) ∧ w = w' := by
  go_enter Try.func84, Try.ntmps84
  go_wp2_with (go_at_call 44; refine (within_any _ _ _ _).mono ?_; rintro e w1 ⟨rfl, rfl⟩)
  go_ret
  exact ⟨rfl, rfl⟩

set_option maxHeartbeats 400000 in
theorem hasProc_any (a b c n : Int) (w : World) :
    Calls Try.prog 21 #[.agg #[.int .i64 a, .int .i64 b, .int .i64 c], .int .i64 n] w fun e w' => e = .returned (.bool (procB a b c n)) ∧ Below w.heap.size w w' := by
  cases h1 : planB a b c
  · rw [procB_no h1]
    go_enter Try.func21, Try.ntmps21
    go_wp2_with (go_at_call 43; refine (right_any _ _ _ _).mono ?_; rintro e w1 ⟨rfl, hb⟩)
    go_ret
    exact ⟨rfl, ((Below.refl _ _).alloc (Nat.le_refl _) _).trans (hb.mono (by simp))⟩
  · obtain ⟨⟨b2, b3⟩, b1, b4⟩ := planB_iff.1 h1
    cases h2 : inB n 0 (a - 1)
    · rw [procB_out h2]
      go_enter Try.func21, Try.ntmps21
      go_wp2_with (first
        | (go_at_call 43; refine (right_any _ _ _ _).mono ?_; rintro e w1 ⟨rfl, hb⟩; obtain ⟨hc, hf⟩ := bcell hb)
        | (go_at_call 44; refine (within_any _ _ _ _).mono ?_; rintro e w' ⟨rfl, rfl⟩))
      go_ret
      exact ⟨rfl, ((Below.refl _ _).alloc (Nat.le_refl _) _).trans (hb.mono (by simp))⟩
    · rw [procB_yes h1 h2]
      go_enter Try.func21, Try.ntmps21
      go_wp2_with (first
        | (go_at_call 43; refine (right_any _ _ _ _).mono ?_; rintro e w1 ⟨rfl, hb⟩; obtain ⟨hc, hf⟩ := bcell hb)
        | (go_at_call 44; refine (within_any _ _ _ _).mono ?_; rintro e w' ⟨rfl, rfl⟩))
      go_ret
      exact ⟨rfl, ((Below.refl _ _).alloc (Nat.le_refl _) _).trans (hb.mono (by simp))⟩

end Go.Proofs.Ytpgfffmojcaocaa

/-
  Is there such a worker, in the program?
-/
namespace Go.Proofs.Ytpgfffmojcaocaa
open Go.RowKit
set_option linter.unusedVariables false

set_option maxHeartbeats 400000 in
theorem hasWorker_any (a b c n : Int) (w : World) :
    Calls Try.prog 91 #[.agg #[.int .i64 a, .int .i64 b, .int .i64 c], .int .i64 n] w fun e w' => e = .returned (.bool (workB a b c n)) ∧ Below w.heap.size w w' := by
  cases h1 : planB a b c
  · rw [workB_no h1]
    go_enter Try.func91, Try.ntmps91
    go_wp2_with (go_at_call 43; refine (right_any _ _ _ _).mono ?_; rintro e w1 ⟨rfl, hb⟩)
    go_ret
    exact ⟨rfl, ((Below.refl _ _).alloc (Nat.le_refl _) _).trans (hb.mono (by simp))⟩
  · obtain ⟨b1, ⟨b2, b3⟩, b4⟩ := planB_iff.1 h1
    cases h2 : inB n 0 (b - 1)
    · rw [workB_out h2]
      go_enter Try.func91, Try.ntmps91
      go_wp2_with (first
        | (go_at_call 43; refine (right_any _ _ _ _).mono ?_; rintro e w1 ⟨rfl, hb⟩; obtain ⟨hc, hf⟩ := bcell hb)
        | (go_at_call 44; refine (within_any _ _ _ _).mono ?_; rintro e w' ⟨rfl, rfl⟩))
      go_ret
      exact ⟨rfl, ((Below.refl _ _).alloc (Nat.le_refl _) _).trans (hb.mono (by simp))⟩
    · rw [workB_yes h1 h2]
      go_enter Try.func91, Try.ntmps91
      go_wp2_with (first
        | (go_at_call 43; refine (right_any _ _ _ _).mono ?_; rintro e w1 ⟨rfl, hb⟩; obtain ⟨hc, hf⟩ := bcell hb)
        | (go_at_call 44; refine (within_any _ _ _ _).mono ?_; rintro e w' ⟨rfl, rfl⟩))
      go_ret
      exact ⟨rfl, ((Below.refl _ _).alloc (Nat.le_refl _) _).trans (hb.mono (by simp))⟩

end Go.Proofs.Ytpgfffmojcaocaa

/-
  Lists of numbers in memory: one that is read, one that the call itself made; append.
-/
namespace Go.Proofs.Ytpgfffmojcaocaa
open Go.RowKit Go.Joins
set_option linter.unusedVariables false

abbrev Ints := Nat → Int
def RowIAt (w : World) (v : Value) (n : Nat) (f : Ints) : Prop :=
  (n = 0 ∧ ∃ a cap, v = .slice a 0 cap) ∨ ∃ b off cap, v = .slice (some ⟨b, off, none⟩) n cap ∧ b < w.heap.size ∧ ∀ i, i < n → w.cell? ⟨b, off + i, none⟩ = some (.int .i64 (f i))
theorem RowIAt.form {w : World} {v : Value} {n : Nat} {f : Ints} (h : RowIAt w v n f) : ∃ a cap, v = .slice a n cap := by
  rcases h with ⟨rfl, a, cap, rfl⟩ | ⟨b, off, cap, rfl, _⟩
  · exact ⟨_, _, rfl⟩
  · exact ⟨_, _, rfl⟩
theorem RowIAt.below {w w' : World} {v : Value} {n : Nat} {f : Ints} (h : RowIAt w v n f) (hb : Below w.heap.size w w') : RowIAt w' v n f := by
  rcases h with h | ⟨b, off, cap, rfl, hl, hc⟩
  · exact .inl h
  · exact .inr ⟨b, off, cap, rfl, Nat.lt_of_lt_of_le hl hb.size, fun i hi => (hb.cell (p := ⟨b, off + i, none⟩) hl).trans (hc i hi)⟩
def IntIn (cur : Array Value) (n : Nat) (f : Ints) : Prop := ∀ i, i < n → cur[i]? = some (.int .i64 (f i))
def OwnIAt (w : World) (B g n cap : Nat) (f : Ints) : Prop :=
  B ≤ g ∧ n ≤ cap ∧ cap ≤ maxLen ∧ ∃ cur, w.heap[g]? = some (.cells cur 2 (0, 0)) ∧ cur.size = cap ∧ IntIn cur n f
/-- a list of the call's own: none, or in a block of its own (which an empty one may have, too) -/
def OwnIRow (w : World) (B : Nat) (v : Value) (n : Nat) (f : Ints) : Prop :=
  (n = 0 ∧ ∃ a cap, v = .slice a 0 cap) ∨ ∃ g cap, v = .slice (some ⟨g, 0, none⟩) n cap ∧ OwnIAt w B g n cap f
theorem OwnIAt.lt {w : World} {B g n cap : Nat} {f : Ints} (h : OwnIAt w B g n cap f) : g < w.heap.size := by
  obtain ⟨_, _, _, cur, hh, _⟩ := h
  exact lt_of_block hh
theorem OwnIAt.cells {w : World} {B g n cap : Nat} {f : Ints} (h : OwnIAt w B g n cap f) {i : Nat} (hi : i < n) : w.cell? ⟨g, i, none⟩ = some (.int .i64 (f i)) := by
  obtain ⟨_, _, _, cur, hh, _, hr⟩ := h
  exact (cell_of_block hh _).trans (hr i hi)
theorem OwnIAt.free {w : World} {B g n cap : Nat} {f : Ints} (h : OwnIAt w B g n cap f) (o : Nat) : w.frozen? ⟨g, o, none⟩ = false := by
  obtain ⟨_, _, _, cur, hh, _⟩ := h
  exact unfrozen_of_block hh o
theorem OwnIAt.row {w : World} {B g n cap : Nat} {f : Ints} (h : OwnIAt w B g n cap f) : RowIAt w (.slice (some ⟨g, 0, none⟩) n cap) n f :=
  .inr ⟨g, 0, cap, rfl, h.lt, fun i hi => by simpa using h.cells hi⟩
theorem OwnIRow.row {w : World} {B n : Nat} {v : Value} {f : Ints} (h : OwnIRow w B v n f) : RowIAt w v n f := by
  rcases h with ⟨rfl, a, c, rfl⟩ | ⟨g, cap, rfl, h⟩
  · exact .inl ⟨rfl, _, _, rfl⟩
  · exact h.row
theorem OwnIAt.block {w w' : World} {B g n cap : Nat} {f : Ints} (h : OwnIAt w B g n cap f) (e : w'.heap[g]? = w.heap[g]?) : OwnIAt w' B g n cap f := by
  obtain ⟨h1, h2, h3, cur, hh, r⟩ := h
  exact ⟨h1, h2, h3, cur, e.trans hh, r⟩
theorem OwnIRow.below {w w' : World} {B n : Nat} {v : Value} {f : Ints} (h : OwnIRow w B v n f) (hb : Below w.heap.size w w') : OwnIRow w' B v n f := by
  rcases h with h | ⟨g, cap, e, h⟩
  · exact .inl h
  · exact .inr ⟨g, cap, e, h.block (hb.block g h.lt)⟩
theorem OwnIRow.mono {w : World} {B B' n : Nat} {v : Value} {f : Ints} (h : OwnIRow w B v n f) (hB : B' ≤ B) : OwnIRow w B' v n f := by
  rcases h with h | ⟨g, cap, e, h1, h2⟩
  · exact .inl h
  · exact .inr ⟨g, cap, e, Nat.le_trans hB h1, h2⟩
def putI (f : Ints) (i : Nat) (x : Int) : Ints := fun k => if k = i then x else f k
theorem OwnIAt.put {w : World} {B g n cap : Nat} {f : Ints} (h : OwnIAt w B g n cap f) {k : Nat} (hk : k < n) (x : Int) : OwnIAt (w.setCell ⟨g, k, none⟩ (.int .i64 x)) B g n cap (putI f k x) := by
  obtain ⟨h1, h2, h3, cur, hh, hs, hr⟩ := h
  refine ⟨h1, h2, h3, _, block_setCell hh (i := k) _, by simp [hs], fun i hi => ?_⟩
  unfold putI
  by_cases e : i = k
  · subst e
    rw [if_pos rfl, Array.getElem?_setIfInBounds_self_of_lt (by omega)]
  · rw [if_neg e, Array.getElem?_setIfInBounds_ne (by omega)]; exact hr i hi
theorem OwnIAt.congr {w : World} {B g n cap : Nat} {f f' : Ints} (h : OwnIAt w B g n cap f) (e : ∀ i, i < n → f i = f' i) : OwnIAt w B g n cap f' := by
  obtain ⟨h1, h2, h3, cur, hh, hs, hr⟩ := h
  exact ⟨h1, h2, h3, cur, hh, hs, fun i hi => by rw [← e i hi]; exact hr i hi⟩


/-! ### append -/
def cellsI (f : Ints) : Nat → List Value
  | 0 => []
  | n + 1 => cellsI f n ++ [.int .i64 (f n)]
theorem cellsI_length (f : Ints) : ∀ n, (cellsI f n).length = n
  | 0 => rfl
  | n + 1 => by rw [cellsI, List.length_append, cellsI_length f n]; rfl
theorem cellsI_get (f : Ints) : ∀ n i, i < n → (cellsI f n)[i]? = some (.int .i64 (f i))
  | 0, i, h => absurd h (Nat.not_lt_zero _)
  | n + 1, i, h => by
    rw [cellsI]
    by_cases e : i = n
    · subst e
      rw [List.getElem?_append_right (by rw [cellsI_length]; omega), cellsI_length]; simp
    · rw [List.getElem?_append_left (by rw [cellsI_length]; omega)]; exact cellsI_get f n i (by omega)
theorem cellsI_push (f : Ints) (n : Nat) (x : Int) : cellsI f n ++ [.int .i64 x] = cellsI (putI f n x) (n + 1) := by
  rw [cellsI]
  have : ∀ k, k ≤ n → cellsI f k = cellsI (putI f n x) k := by
    intro k
    induction k with
    | zero => intro _; rfl
    | succ k ih => intro hk; rw [cellsI, cellsI, ih (by omega), putI, if_neg (by omega)]
  rw [this n (Nat.le_refl _), putI, if_pos rfl]
theorem int_info : (Try.prog.info? 2).map (fun i => (i.zero, i.size, i.bytes)) = some (some (.int .i64 0), 1, 8) := by kernel_rfl
theorem owni_of_row {w : World} {B n : Nat} {v : Value} {f : Ints} (h : w.ownsRow B 2 1 v n (cellsI f n)) : OwnIRow w B v n f := by
  rcases h.2 with ⟨rfl, rfl⟩ | ⟨g, cap, cur, rfl, hB, hg, hn, hcm, hs, ht⟩
  · exact .inl ⟨rfl, _, _, rfl⟩
  · refine .inr ⟨g, cap, rfl, hB, hn, hcm, cur, hg, by simpa using hs, fun i hi => ?_⟩
    have h1 := cellsI_get f n i hi
    rw [← ht, List.getElem?_take_of_lt (by omega)] at h1
    simpa using h1

theorem owns_below {w w' : World} {B n size : Nat} {e : TypeId} {v : Value} {xs : List Value} (h : w.ownsRow B e size v n xs) (hb : Below w.heap.size w w') : w'.ownsRow B e size v n xs := by
  refine ⟨h.1, ?_⟩
  rcases h.2 with h2 | ⟨g, cap, cur, ev, hB, hg, r⟩
  · exact .inl h2
  · exact .inr ⟨g, cap, cur, ev, hB, (hb.block g (lt_of_block hg)).trans hg, r⟩
theorem owns_form {w : World} {B n size : Nat} {e : TypeId} {v : Value} {xs : List Value} (h : w.ownsRow B e size v n xs) : ∃ a cap, v = .slice a n cap := by
  rcases h.2 with ⟨rfl, rfl⟩ | ⟨g, cap, cur, rfl, _⟩
  · exact ⟨_, _, rfl⟩
  · exact ⟨_, _, rfl⟩
theorem owns_ge {w : World} {B n size : Nat} {e : TypeId} {v : Value} {xs : List Value} (h : w.ownsRow B e size v n xs) : ∀ x, v.ownBlock = some x → B ≤ x := by
  intro x hx
  rcases h.2 with ⟨rfl, rfl⟩ | ⟨g, cap, cur, rfl, hB, _⟩
  · simp [Value.ownBlock] at hx
  · simp [Value.ownBlock] at hx
    subst hx
    exact hB
theorem b_grownV {a w : World} {B : Nat} {ob : Option Nat} (h : a.grownBy w ob) (hx : ∀ x, ob = some x → B ≤ x) (hs : B ≤ a.heap.size) : Below B a w :=
  ⟨h.os, h.tape, h.output, h.size, fun i hi => h.block i (by omega) (fun e => by have := hx i e.symm; omega)⟩
/-- the one cell that append's last argument lies in -/
theorem int_new {w : World} {b : Nat} (x : Int) (h : b = w.heap.size) : (w.alloc (.cells #[.int .i64 x] 2)).cell? ⟨b, 0, none⟩ = some (.int .i64 x) := by
  subst h
  exact cell_of_block (heap_alloc_new w _) 0
/-- a list of no numbers that was just made -/
theorem rowi_new {w : World} {b B : Nat} (h : b = w.heap.size) (hB : B ≤ w.heap.size) : (w.alloc (.cells #[] 2)).ownsRow B 2 1 (.slice (some ⟨b, 0, none⟩) 0 0) 0 (cellsI (fun _ => 0) 0) := by
  subst h
  exact World.ownsRow_made w (base := B) (e := 2) (size := 1) #[] 0 hB (Nat.zero_le _) rfl

end Go.Proofs.Ytpgfffmojcaocaa

/-
  The least of a list of numbers (the library's slices.Min).
-/
namespace Go.Proofs.Ytpgfffmojcaocaa
open Go.RowKit Go.Joins
set_option linter.unusedVariables false

/-- the least of the first k + 1 -/
def leastI (f : Ints) : Nat → Int
  | 0 => f 0
  | k + 1 => if f (k + 1) < leastI f k then f (k + 1) else leastI f k

end Go.Proofs.Ytpgfffmojcaocaa

/-
  Processors, in the program (chapter 4): its own form of one, and its small methods.
-/
namespace Go.Proofs.Ytpgfffmojcaocaa
open Go.RowKit Go.Joins
set_option linter.unusedVariables false

/-- a processor as the program works with it -/
abbrev pxV (v : Value) (l e d : Int) : Value := .agg #[.int .i64 l, v, .int .i64 e, .int .i64 d]

set_option maxRecDepth 100000 in
set_option maxHeartbeats 400000 in
theorem processorOf_any {v : Value} {n : Nat} (l e d : Int) {w : World} (hv : ∃ a cap, v = .slice a n cap) :
    Calls Try.prog 58 #[prV v l e d] w fun x w' => x = .returned (pxV v l e d) ∧ Below w.heap.size w w' := by
  obtain ⟨a, cap, rfl⟩ := hv
  have k0 := (Below.refl w.heap.size w).alloc (Nat.le_refl _) (.cells #[.slice a n cap, .int .i64 l, .int .i64 e, .int .i64 d] 71)
  go_enter Try.func58, Try.ntmps58
  go_wp2
  exact bodyPost_ret (v := pxV (.slice a n cap) l e d) (by simp [results, Try.results58, go_sem]) rfl ⟨rfl, k0.alloc k0.size _⟩

set_option maxHeartbeats 400000 in
theorem free_any (l : Int) (w : World) :
    Calls Try.prog 90 #[.agg #[.int .i64 l]] w fun x w' => x = .returned (.bool (l == -1)) ∧ Below w.heap.size w w' := by
  go_enter Try.func90, Try.ntmps90
  go_wp2
  go_ret
  exact ⟨rfl, (Below.refl _ _).alloc (Nat.le_refl _) _⟩

/-- the block of a processor that came in -/
abbrev pxB (v : Value) (l e d : Int) : Obj := .cells #[.int .i64 l, v, .int .i64 e, .int .i64 d] 87

set_option maxRecDepth 100000 in
set_option maxHeartbeats 400000 in
theorem lockRight_any (a b c : Int) {v : Value} {n : Nat} (l e d : Int) {w : World} (hv : ∃ a cap, v = .slice a n cap) :
    Calls Try.prog 78 #[pxV v l e d, .agg #[.int .i64 a, .int .i64 b, .int .i64 c]] w fun x w' => x = .returned (.bool (l == -1 || workB a b c l)) ∧ Below w.heap.size w w' := by
  obtain ⟨sa, cap, rfl⟩ := hv
  have k0 := (Below.refl w.heap.size w).alloc (Nat.le_refl _) (pxB (.slice sa n cap) l e d)
  have k1 := k0.alloc k0.size (.cells #[.int .i64 a, .int .i64 b, .int .i64 c] 35)
  cases hl : l == -1
  · rw [Bool.false_or]
    go_enter Try.func78, Try.ntmps78
    go_wp2_with (first
      | (go_at_call 90; refine (free_any _ _).mono ?_; rintro x w1 ⟨rfl, hb⟩; rw [hl]; obtain ⟨hc, hf⟩ := bcell hb)
      | (go_at_call 91; refine (hasWorker_any _ _ _ _ _).mono ?_; rintro x w2 ⟨rfl, hb2⟩))
    go_ret
    exact ⟨rfl, k1.trans ((hb.trans (hb2.mono hb.size)).mono k1.size)⟩
  · rw [Bool.true_or]
    go_enter Try.func78, Try.ntmps78
    go_wp2_with (first
      | (go_at_call 90; refine (free_any _ _).mono ?_; rintro x w1 ⟨rfl, hb⟩; rw [hl]; obtain ⟨hc, hf⟩ := bcell hb)
      | (go_at_call 91; refine (hasWorker_any _ _ _ _ _).mono ?_; rintro x w2 ⟨rfl, hb2⟩))
    go_ret
    exact ⟨rfl, k1.trans (hb.mono k1.size)⟩

set_option maxRecDepth 100000 in
set_option maxHeartbeats 400000 in
theorem earliestRight_any {v : Value} {n : Nat} (l e d : Int) {w : World} (hv : ∃ a cap, v = .slice a n cap) :
    Calls Try.prog 79 #[pxV v l e d] w fun x w' => x = .returned (.bool (e == -1 || inB e 0 1000000000)) ∧ Below w.heap.size w w' := by
  obtain ⟨sa, cap, rfl⟩ := hv
  have k0 := (Below.refl w.heap.size w).alloc (Nat.le_refl _) (pxB (.slice sa n cap) l e d)
  cases hl : e == -1
  · rw [Bool.false_or]
    go_enter Try.func79, Try.ntmps79
    go_wp2_with (go_at_call 84; refine (isTime_any _ _).mono ?_; rintro x w1 ⟨rfl, rfl⟩)
    go_ret
    exact ⟨rfl, k0⟩
  · rw [Bool.true_or]
    go_enter Try.func79, Try.ntmps79
    go_wp2_with (go_at_call 84; refine (isTime_any _ _).mono ?_; rintro x w1 ⟨rfl, rfl⟩)
    go_ret
    exact ⟨rfl, k0⟩

set_option maxRecDepth 100000 in
set_option maxHeartbeats 400000 in
theorem deletedRight_any {v : Value} {n : Nat} (l e d : Int) {w : World} (hn : n ≤ 1048576) (hv : ∃ a cap, v = .slice a n cap) :
    Calls Try.prog 80 #[pxV v l e d] w fun x w' => x = .returned (.bool (inB d 0 n)) ∧ Below w.heap.size w w' := by
  obtain ⟨sa, cap, rfl⟩ := hv
  have k0 := (Below.refl w.heap.size w).alloc (Nat.le_refl _) (pxB (.slice sa n cap) l e d)
  go_enter Try.func80, Try.ntmps80
  go_wp2_with (go_at_call 44; refine (within_any _ _ _ _).mono ?_; rintro x w1 ⟨rfl, rfl⟩)
  go_ret
  exact ⟨rfl, k0⟩

end Go.Proofs.Ytpgfffmojcaocaa

/-
  A memory as the program works with it (chapter 5): behind a pointer; its processors in a list of their own form.
-/
namespace Go.Proofs.Ytpgfffmojcaocaa
open Go.RowKit Go.Joins
set_option linter.unusedVariables false

/-- the block of a memory -/
abbrev memB (a b c k : Int) (tv pv : Value) : Obj := .cells #[.int .i64 a, .int .i64 b, .int .i64 c, .int .i64 k, tv, pv] 82
theorem six {w : World} {b : Nat} {x0 x1 x2 x3 x4 x5 : Value} {t : TypeId} (h : w.heap[b]? = some (.cells #[x0, x1, x2, x3, x4, x5] t (0, 0))) :
    w.cell? ⟨b, 0, none⟩ = some x0 ∧ w.cell? ⟨b, 1, none⟩ = some x1 ∧ w.cell? ⟨b, 2, none⟩ = some x2 ∧ w.cell? ⟨b, 3, none⟩ = some x3 ∧ w.cell? ⟨b, 4, none⟩ = some x4 ∧ w.cell? ⟨b, 5, none⟩ = some x5 :=
  ⟨cell_of_block h 0, cell_of_block h 1, cell_of_block h 2, cell_of_block h 3, cell_of_block h 4, cell_of_block h 5⟩

/-! ### a list of processors that is read -/
def PxAt (w : World) (b o : Nat) (p : Pc) : Prop :=
  ∃ a cap, w.cell? ⟨b, o, none⟩ = some (.int .i64 p.l) ∧ w.cell? ⟨b, o + 1, none⟩ = some (.slice a p.n cap) ∧ w.cell? ⟨b, o + 2, none⟩ = some (.int .i64 p.e) ∧ w.cell? ⟨b, o + 3, none⟩ = some (.int .i64 p.d) ∧ RowAt w (.slice a p.n cap) p.n p.f
theorem PxAt.below {w w' : World} {b o : Nat} {p : Pc} (h : PxAt w b o p) (hl : b < w.heap.size) (hb : Below w.heap.size w w') : PxAt w' b o p := by
  obtain ⟨a, cap, h0, h1, h2, h3, hr⟩ := h
  exact ⟨a, cap, (hb.cell (p := ⟨b, o, none⟩) hl).trans h0, (hb.cell (p := ⟨b, o + 1, none⟩) hl).trans h1, (hb.cell (p := ⟨b, o + 2, none⟩) hl).trans h2, (hb.cell (p := ⟨b, o + 3, none⟩) hl).trans h3, hr.below hb⟩
def RowXAt (w : World) (v : Value) (m : Nat) (P : Pcs) : Prop :=
  (m = 0 ∧ ∃ a cap, v = .slice a 0 cap) ∨ ∃ b off cap, v = .slice (some ⟨b, off, none⟩) m cap ∧ b < w.heap.size ∧ ∀ i, i < m → PxAt w b (off + i * 4) (P i)
theorem RowXAt.form {w : World} {v : Value} {m : Nat} {P : Pcs} (h : RowXAt w v m P) : ∃ a cap, v = .slice a m cap := by
  rcases h with ⟨rfl, a, cap, rfl⟩ | ⟨b, off, cap, rfl, _⟩
  · exact ⟨_, _, rfl⟩
  · exact ⟨_, _, rfl⟩
theorem RowXAt.below {w w' : World} {v : Value} {m : Nat} {P : Pcs} (h : RowXAt w v m P) (hb : Below w.heap.size w w') : RowXAt w' v m P := by
  rcases h with h | ⟨b, off, cap, rfl, hl, hc⟩
  · exact .inl h
  · exact .inr ⟨b, off, cap, rfl, Nat.lt_of_lt_of_le hl hb.size, fun i hi => (hc i hi).below hl hb⟩

/-! ### a list of processors that the call made -/
def PxIn (cur : Array Value) (m : Nat) (P : Pcs) (V : Nat → Value) : Prop :=
  ∀ i, i < m → cur[i * 4]? = some (.int .i64 (P i).l) ∧ cur[i * 4 + 1]? = some (V i) ∧ cur[i * 4 + 2]? = some (.int .i64 (P i).e) ∧ cur[i * 4 + 3]? = some (.int .i64 (P i).d)
def ListXAt (w : World) (B g m cap : Nat) (P : Pcs) (V : Nat → Value) : Prop :=
  B ≤ g ∧ m ≤ cap ∧ cap ≤ maxLen ∧ ∃ cur, w.heap[g]? = some (.cells cur 87 (0, 0)) ∧ cur.size = cap * 4 ∧ PxIn cur m P V
theorem ListXAt.lt {w : World} {B g m cap : Nat} {P : Pcs} {V : Nat → Value} (h : ListXAt w B g m cap P V) : g < w.heap.size := by
  obtain ⟨_, _, _, cur, hh, _⟩ := h
  exact lt_of_block hh
theorem ListXAt.cells {w : World} {B g m cap : Nat} {P : Pcs} {V : Nat → Value} (h : ListXAt w B g m cap P V) {i : Nat} (hi : i < m) :
    w.cell? ⟨g, i * 4, none⟩ = some (.int .i64 (P i).l) ∧ w.cell? ⟨g, i * 4 + 1, none⟩ = some (V i) ∧ w.cell? ⟨g, i * 4 + 2, none⟩ = some (.int .i64 (P i).e) ∧ w.cell? ⟨g, i * 4 + 3, none⟩ = some (.int .i64 (P i).d) := by
  obtain ⟨_, _, _, cur, hh, _, hr⟩ := h
  obtain ⟨h0, h1, h2, h3⟩ := hr i hi
  exact ⟨(cell_of_block hh _).trans h0, (cell_of_block hh _).trans h1, (cell_of_block hh _).trans h2, (cell_of_block hh _).trans h3⟩
theorem ListXAt.free {w : World} {B g m cap : Nat} {P : Pcs} {V : Nat → Value} (h : ListXAt w B g m cap P V) (o : Nat) : w.frozen? ⟨g, o, none⟩ = false := by
  obtain ⟨_, _, _, cur, hh, _⟩ := h
  exact unfrozen_of_block hh o
theorem ListXAt.block {w w' : World} {B g m cap : Nat} {P : Pcs} {V : Nat → Value} (h : ListXAt w B g m cap P V) (e : w'.heap[g]? = w.heap[g]?) : ListXAt w' B g m cap P V := by
  obtain ⟨h1, h2, h3, cur, hh, r⟩ := h
  exact ⟨h1, h2, h3, cur, e.trans hh, r⟩
theorem ListXAt.below {w w' : World} {B g m cap : Nat} {P : Pcs} {V : Nat → Value} (h : ListXAt w B g m cap P V) (hb : Below w.heap.size w w') : ListXAt w' B g m cap P V := h.block (hb.block g h.lt)
theorem ListXAt.congr {w : World} {B g m cap : Nat} {P Q : Pcs} {V U : Nat → Value} (h : ListXAt w B g m cap P V) (e : ∀ i, i < m → P i = Q i) (ev : ∀ i, i < m → V i = U i) : ListXAt w B g m cap Q U := by
  obtain ⟨h1, h2, h3, cur, hh, hs, hr⟩ := h
  exact ⟨h1, h2, h3, cur, hh, hs, fun i hi => by rw [← e i hi, ← ev i hi]; exact hr i hi⟩
theorem ListXAt.mono {w : World} {B B' g m cap : Nat} {P : Pcs} {V : Nat → Value} (h : ListXAt w B g m cap P V) (hB : B' ≤ B) : ListXAt w B' g m cap P V := by
  obtain ⟨h1, r⟩ := h
  exact ⟨Nat.le_trans hB h1, r⟩
/-- as a list that is read -/
theorem ListXAt.row {w : World} {B g m cap : Nat} {P : Pcs} {V : Nat → Value} (h : ListXAt w B g m cap P V) (hr : ∀ i, i < m → RowAt w (V i) (P i).n (P i).f) : RowXAt w (.slice (some ⟨g, 0, none⟩) m cap) m P :=
  .inr ⟨g, 0, cap, rfl, h.lt, fun i hi => by
    obtain ⟨h0, h1, h2, h3⟩ := h.cells hi
    have ho := hr i hi
    obtain ⟨a, c, e⟩ := ho.form
    rw [e] at h1 ho
    exact ⟨a, c, by simpa using h0, by simpa using h1, by simpa using h2, by simpa using h3, ho⟩⟩

/-- a processor is stored -/
abbrev setX (w : World) (g k : Nat) (u : Value) (l e d : Int) : World := (((w.setCell ⟨g, k * 4, none⟩ (.int .i64 l)).setCell ⟨g, k * 4 + 1, none⟩ u).setCell ⟨g, k * 4 + 2, none⟩ (.int .i64 e)).setCell ⟨g, k * 4 + 3, none⟩ (.int .i64 d)
theorem putX4 {cur : Array Value} {m cap k : Nat} {P : Pcs} {V : Nat → Value} (hs : cur.size = cap * 4) (hk : k < cap) (hr : PxIn cur m P V) (u : Value) (p : Pc) :
    PxIn ((((cur.setIfInBounds (k * 4) (.int .i64 p.l)).setIfInBounds (k * 4 + 1) u).setIfInBounds (k * 4 + 2) (.int .i64 p.e)).setIfInBounds (k * 4 + 3) (.int .i64 p.d)) m (putP P k p) (putV V k u) := by
  intro i hi
  by_cases e : i = k
  · subst e
    rw [putP_same, putV_same]
    refine ⟨?_, ?_, ?_, ?_⟩ <;> (simp only [Array.getElem?_setIfInBounds, Array.size_setIfInBounds]; simp; try omega)
  · rw [putP_other P p e, putV_other V u e]
    obtain ⟨h0, h1, h2, h3⟩ := hr i hi
    refine ⟨?_, ?_, ?_, ?_⟩
    · rw [Array.getElem?_setIfInBounds_ne (by omega), Array.getElem?_setIfInBounds_ne (by omega), Array.getElem?_setIfInBounds_ne (by omega), Array.getElem?_setIfInBounds_ne (by omega)]; exact h0
    · rw [Array.getElem?_setIfInBounds_ne (by omega), Array.getElem?_setIfInBounds_ne (by omega), Array.getElem?_setIfInBounds_ne (by omega), Array.getElem?_setIfInBounds_ne (by omega)]; exact h1
    · rw [Array.getElem?_setIfInBounds_ne (by omega), Array.getElem?_setIfInBounds_ne (by omega), Array.getElem?_setIfInBounds_ne (by omega), Array.getElem?_setIfInBounds_ne (by omega)]; exact h2
    · rw [Array.getElem?_setIfInBounds_ne (by omega), Array.getElem?_setIfInBounds_ne (by omega), Array.getElem?_setIfInBounds_ne (by omega), Array.getElem?_setIfInBounds_ne (by omega)]; exact h3
theorem ListXAt.put {w : World} {B g m cap : Nat} {P : Pcs} {V : Nat → Value} (h : ListXAt w B g m cap P V) {k : Nat} (hk : k < m) (u : Value) (p : Pc) : ListXAt (setX w g k u p.l p.e p.d) B g m cap (putP P k p) (putV V k u) := by
  obtain ⟨h1, h2, h3, cur, hh, hs, hr⟩ := h
  refine ⟨h1, h2, h3, _, block_setCell (block_setCell (block_setCell (block_setCell hh (i := k * 4) _) (i := k * 4 + 1) _) (i := k * 4 + 2) _) (i := k * 4 + 3) _, by simp [hs], putX4 hs (by omega) hr u p⟩
theorem heap_setX (w : World) (g k : Nat) (u : Value) (l e d : Int) {x : Nat} (hx : x ≠ g) : (setX w g k u l e d).heap[x]? = w.heap[x]? :=
  (Below.heap_setCell _ ⟨g, k * 4 + 3, none⟩ _ x hx).trans ((Below.heap_setCell _ ⟨g, k * 4 + 2, none⟩ _ x hx).trans ((Below.heap_setCell _ ⟨g, k * 4 + 1, none⟩ _ x hx).trans (Below.heap_setCell _ ⟨g, k * 4, none⟩ _ x hx)))
theorem b_setX {W w : World} {n g : Nat} (h : Below n W w) (hg : n ≤ g) (k : Nat) (u : Value) (l e d : Int) : Below n W (setX w g k u l e d) :=
  (((h.setCell (p := ⟨g, k * 4, none⟩) hg _).setCell (p := ⟨g, k * 4 + 1, none⟩) hg _).setCell (p := ⟨g, k * 4 + 2, none⟩) hg _).setCell (p := ⟨g, k * 4 + 3, none⟩) hg _

theorem px_info : (Try.prog.info? 87).map (fun i => (i.zero, i.size, i.bytes)) = some (some (.agg #[.int .i64 0, .slice none 0 0, .int .i64 0, .int .i64 0]), 4, 48) := by kernel_rfl
theorem madeX_zero (n i : Nat) (hi : i < n) : (madeCells #[.int .i64 0, .slice none 0 0, .int .i64 0, .int .i64 0] (n * 4))[i * 4]? = some (.int .i64 0) ∧ (madeCells #[.int .i64 0, .slice none 0 0, .int .i64 0, .int .i64 0] (n * 4))[i * 4 + 1]? = some (.slice none 0 0) ∧ (madeCells #[.int .i64 0, .slice none 0 0, .int .i64 0, .int .i64 0] (n * 4))[i * 4 + 2]? = some (.int .i64 0) ∧ (madeCells #[.int .i64 0, .slice none 0 0, .int .i64 0, .int .i64 0] (n * 4))[i * 4 + 3]? = some (.int .i64 0) := by
  have m1 : (i * 4 + 1) % 4 = 1 := by omega
  have m2 : (i * 4 + 2) % 4 = 2 := by omega
  have m3 : (i * 4 + 3) % 4 = 3 := by omega
  refine ⟨?_, ?_, ?_, ?_⟩ <;> (rw [Array.getElem?_eq_getElem (by rw [size_madeCells]; omega)]; simp [madeCells, m1, m2, m3])
abbrev madeX (n : Nat) : Obj := .cells (madeCells #[.int .i64 0, .slice none 0 0, .int .i64 0, .int .i64 0] (n * 4)) 87
theorem listx_made (w : World) (n : Nat) (hn : n ≤ maxLen) : ListXAt (w.alloc (madeX n)) w.heap.size w.heap.size n n (fun _ => pc0) (fun _ => .slice none 0 0) :=
  ⟨Nat.le_refl _, Nat.le_refl _, hn, _, heap_alloc_new w _, size_madeCells _ _, fun i hi => madeX_zero n i hi⟩
theorem run_make_px (n : Nat) (hn : n ≤ 1048576) : ∀ w : World, (Instr.makeSlice 80 (.int .i64 (n : Int)) (.int .i64 (n : Int))).run Try.prog w = .ok (.slice (some ⟨w.heap.size, 0, none⟩) n n) (w.alloc (madeX n)) := by
  intro w
  obtain ⟨i0, hi, hz, hs, hby⟩ := info_parts px_info
  have hr := run_make (P := Try.prog) w 80 87 i0 _ Try.underlying80 hi hz .i64 .i64 (n : Int) (n : Int) (by omega) (by omega) (by rw [hby]; omega) (by omega)
  rw [hs] at hr
  simp only [Int.toNat_natCast] at hr
  exact hr

/-! ### a memory that is looked at -/
def SeenAt (w : World) (mb : Nat) (a b c : Int) (M : Me) : Prop := ∃ tv pv, w.heap[mb]? = some (memB a b c M.c tv pv) ∧ RowTAt w tv M.tn M.t ∧ RowXAt w pv M.pn M.p
theorem SeenAt.lt {w : World} {mb : Nat} {a b c : Int} {M : Me} (h : SeenAt w mb a b c M) : mb < w.heap.size := by
  obtain ⟨_, _, h, _⟩ := h
  exact lt_of_block h
theorem SeenAt.below {w w' : World} {mb : Nat} {a b c : Int} {M : Me} (h : SeenAt w mb a b c M) (hb : Below w.heap.size w w') : SeenAt w' mb a b c M := by
  obtain ⟨tv, pv, h1, h2, h3⟩ := h
  exact ⟨tv, pv, b_block hb h1 (lt_of_block h1), h2.below hb, h3.below hb⟩
/-- the pointer to a memory -/
abbrev ptrV (mb : Nat) : Value := .pointer (some ⟨mb, 0, none⟩)

end Go.Proofs.Ytpgfffmojcaocaa
