/-
  A memory as the program works with it (chapter 5): is it right? MemOk.
-/
import Derived.Test.YtflekodaiejflaaGreatL08
import Derived.Test.YtflekodaiejflaaGreatL01
import Derived.Test.YtflekodaiejflaaGreatL00
import Derived.Laws.CopyRow
import Derived.Laws.MakeOwn
import Derived.Laws.CopyOwn
import Derived.Test.YtflekodaiejflaaGreatL02
import Derived.Test.YtflekodaiejflaaGreatL04
import Derived.Test.YtflekodaiejflaaGreatL05
import Derived.RangeFuncOwn
import Derived.Deep.DeepCutAuto
namespace Go.Proofs.YtflekodaiejflaaGreat
open Go.RowKit Go.Joins
set_option linter.unusedVariables false
set_option linter.unusedSimpArgs false

theorem allB_iff {g : Nat → Bool} : ∀ {n : Nat}, allB g n = true ↔ ∀ i, i < n → g i = true
  | 0 => ⟨fun _ i hi => absurd hi (Nat.not_lt_zero _), fun _ => rfl⟩
  | n + 1 => by
    constructor
    · exact allB_at
    · intro h
      rw [allB, allB_iff.2 (fun i hi => h i (by omega)), h n (by omega)]; rfl
theorem slotsOk_all {M : Me} {k e : Int} {f : Slots} : ∀ n, slotsOkB M k e f n = allB (fun i => slotOkB M k (f i) && earlyOkB M e (f i)) n
  | 0 => rfl
  | n + 1 => by rw [slotsOkB, allB, slotsOk_all n]
theorem allB_and {g h : Nat → Bool} : ∀ n, allB (fun i => g i && h i) n = (allB g n && allB h n)
  | 0 => rfl
  | n + 1 => by
    rw [allB, allB, allB, allB_and n]
    cases allB g n <;> cases allB h n <;> cases g n <;> cases h n <;> rfl
theorem allB_congr {g h : Nat → Bool} : ∀ n, (∀ i, i < n → g i = h i) → allB g n = allB h n
  | 0, _ => rfl
  | n + 1, e => by rw [allB, allB, allB_congr n (fun i hi => e i (by omega)), e n (by omega)]
theorem early_over {M : Me} {e : Int} (he : e = -1 ∨ 0 ≤ e) (s : Int × Int) : earlyOkB M e s = !ovB e (M.t s.1.toNat) := by
  unfold earlyOkB ovB
  have : decide (e < 0) = (e == -1) := by
    rcases he with rfl | he
    · rfl
    · rw [show (e == -1) = false from beq_eq_false_iff_ne.2 (by omega)]; simp; omega
  rw [this]
theorem agree_split (a b c : Int) (M : Me) (k : Nat) (hp : planB a b c = true) : agreeB a b c M k = (procX a b c M k && agreeX M k) := by
  unfold agreeB procX agreeX
  rw [procOkB_eq, hp, Bool.true_and]
  show (rightB _ _ _ _ _ _ _ _ && _) = _
  cases hr : rightB a b c (M.p k).f (M.p k).n (M.p k).l (M.p k).e (M.p k).d
  · rfl
  · have he : (M.p k).e = -1 ∨ 0 ≤ (M.p k).e := by
      unfold rightB at hr
      rw [Bool.and_eq_true, Bool.and_eq_true, Bool.or_eq_true] at hr
      rcases hr.1.2 with h | h
      · exact .inl (by simpa using h)
      · exact .inr (inB_iff.1 h).1
    rw [Bool.true_and, Bool.true_and, slotsOk_all, allB_and, show allB (fun i => earlyOkB M (M.p k).e ((M.p k).f i)) (M.p k).n = allB (fun i => !ovB (M.p k).e (M.t (((M.p k).f i).1).toNat)) (M.p k).n from allB_congr _ (fun i _ => early_over he _),
      show (delsF M (M.p k).f (M.p k).n == (M.p k).d) = ((M.p k).d == delsF M (M.p k).f (M.p k).n) from Bool.beq_comm]
    cases allB (fun i => slotOkB M k ((M.p k).f i)) (M.p k).n <;> cases allB (fun i => !ovB (M.p k).e (M.t (((M.p k).f i).1).toNat)) (M.p k).n <;> cases (M.p k).d == delsF M (M.p k).f (M.p k).n <;> rfl
theorem memOk_split (a b c : Int) (M : Me) :
    memOkB a b c M = (sizesX a b c M && ((allB (fun i => timerB a b c (M.t i)) M.tn && allB (procX a b c M) M.pn) && (allB (agreeX M) M.pn && allB (placeOkB M) M.tn))) := by
  unfold memOkB sizesX
  cases hp : planB a b c
  · rfl
  · rw [show allB (agreeB a b c M) M.pn = (allB (procX a b c M) M.pn && allB (agreeX M) M.pn) by rw [← allB_and]; exact allB_congr _ (fun i _ => agree_split a b c M i hp),
      show allB (fitB a b c M) M.tn = (allB (fun i => timerB a b c (M.t i)) M.tn && allB (placeOkB M) M.tn) by rw [← allB_and]; rfl,
      show (!decide (c < (M.tn : Int))) = decide ((M.tn : Int) ≤ c) by rw [← decide_not]; exact decide_eq_decide.2 (by omega)]
    cases inB M.c 0 999999999 <;> cases decide ((M.tn : Int) ≤ c) <;> cases ((M.pn : Int) == a) <;> cases allB (fun i => timerB a b c (M.t i)) M.tn <;> cases allB (procX a b c M) M.pn <;> cases allB (agreeX M) M.pn <;> cases allB (placeOkB M) M.tn <;> rfl

set_option maxRecDepth 100000 in
set_option maxHeartbeats 4000000 in
theorem memRight_any {mb : Nat} {a b c : Int} {M : Me} {w : World} (hs : sizeM M ≤ 1048576) (h : SeenAt w mb a b c M) :
    Calls Tryz.prog 97 #[ptrV mb] w fun e w' => e = .returned (.bool (memOkB a b c M)) ∧ Below w.heap.size w w' := by
  rw [memOk_split]
  have HS := Lib.hid h
  cases hz : sizesX a b c M
  · have HZ := Lib.hid hz
    clear h hz
    go_enter Tryz.func97, Tryz.ntmps97
    go_wp2_with (first
      | (go_at_call 114; refine (sizesRight_any hs HS.out).mono ?_; rintro x w1 ⟨rfl, hb⟩; rw [HZ.out]))
    go_ret
    exact ⟨rfl, hb⟩
  have HZ := Lib.hid hz
  cases hp : (allB (fun i => timerB a b c (M.t i)) M.tn && allB (procX a b c M) M.pn)
  · have HP := Lib.hid hp
    clear h hz hp
    go_enter Tryz.func97, Tryz.ntmps97
    go_wp2_with (first
      | (go_at_call 114; refine (sizesRight_any hs HS.out).mono ?_; rintro x w1 ⟨rfl, hb⟩; rw [HZ.out])
      | (go_at_call 115; refine (partsRight_any hs (HS.out.below hb)).mono ?_; rintro x w2 ⟨rfl, hb2⟩; rw [HP.out]))
    go_ret
    exact ⟨rfl, hb.trans (hb2.mono hb.size)⟩
  · have HP := Lib.hid hp
    have hpl : ∀ i, i < M.tn → (M.t i).pl = -1 ∨ 0 ≤ (M.t i).pl ∧ (M.t i).pl < (M.pn : Int) := by
      rw [Bool.and_eq_true] at hp
      unfold sizesX at hz
      simp only [Bool.and_eq_true, beq_iff_eq] at hz
      intro i hi
      have := timerB_pl (allB_at hp.1 i hi)
      have he := hz.2.2.2
      omega
    have HPL := Lib.hid hpl
    clear h hz hp hpl
    go_enter Tryz.func97, Tryz.ntmps97
    go_wp2_with (first
      | (go_at_call 114; refine (sizesRight_any hs HS.out).mono ?_; rintro x w1 ⟨rfl, hb⟩; rw [HZ.out])
      | (go_at_call 115; refine (partsRight_any hs (HS.out.below hb)).mono ?_; rintro x w2 ⟨rfl, hb2⟩; rw [HP.out]; have k2 := hb.trans (hb2.mono hb.size))
      | (go_at_call 116; refine (agrees_any hs (HS.out.below k2) HPL.out).mono ?_; rintro x w3 ⟨rfl, hb3⟩))
    go_ret
    exact ⟨rfl, k2.trans (hb3.mono k2.size)⟩

end Go.Proofs.YtflekodaiejflaaGreat

/-
  Append onto a list of timers of the call's own.
-/
namespace Go.Proofs.YtflekodaiejflaaGreat
open Go.RowKit Go.Joins
set_option linter.unusedVariables false
set_option linter.unusedSimpArgs false

/-! ### append onto a list of the call's own, from a list that is read -/
theorem timer_info2 : (Tryz.prog.info? 90).map (fun i => (i.zero, i.size, i.bytes)) = some (some (.agg #[.int .i64 0, .int .i64 0, .int .i64 0, .int .i64 0, .int .i64 0, .int .i64 0, .int .i64 0, .int .i64 0]), 8, 64) := by kernel_rfl

theorem run_append_tms (w : World) (B : Nat) (ty : TypeId) (v : Value) (n : Nat) (f : Tms) (hown : w.ownsRow B 90 8 v n (cellsT f n)) (x : Value) (m : Nat) (h : Tms) (hx : RowTAt w x m h) (hn : n + m ≤ 2097152) (hB : B ≤ w.heap.size) :
    ∃ v' w', (Builtin.append_ #[33, 33] ty #[v, x]).run Tryz.prog w = .ok v' w' ∧ w'.ownsRow B 90 8 v' (n + m) (cellsT f n ++ cellsT h m) ∧ w.grownBy w' v.ownBlock ∧ (v'.ownBlock = v.ownBlock ∨ v'.ownBlock = some w.heap.size) := by
  obtain ⟨i0, hi, hz, hs, hby⟩ := info_parts timer_info2
  have hbytes : (n + m) * 64 ≤ 140737488355328 := by omega
  have h63 : n + m ≤ maxLen := by unfold maxLen; omega
  rcases hx with ⟨rfl, a, cap, rfl⟩ | ⟨b, off, cap, rfl, hl, hc⟩
  · rcases a with _ | ad
    · refine ⟨v, w, ?_, by simpa [cellsT] using hown, g_refl w _, .inl rfl⟩
      rcases hown.2 with ⟨rfl, rfl⟩ | ⟨g, cap', cur, rfl, _, _, hnc, _⟩
      · simp [Builtin.append_, run_underlying Tryz.underlying33, sizeOf, typeInfo, hi, Builtin.lenOf, Builtin.firstCells]
      · simp [Builtin.append_, run_underlying Tryz.underlying33, sizeOf, typeInfo, hi, Builtin.lenOf, Builtin.firstCells, hnc, storeCells]
    · obtain ⟨v', w', hrun, h2, h3, _, h5⟩ := run_append_own_at (P := Tryz.prog) w B 33 ty 90 i0 _ 8 64 Tryz.underlying33 hi hz hs hby rfl (by decide) v n _ hown ad 0 cap [] rfl (by simp) (by simp) h63 hbytes hB
      exact ⟨v', w', hrun, by simpa [cellsT] using h2, h3, h5⟩
  · obtain ⟨v', w', hrun, h2, h3, _, h5⟩ := run_append_own_at (P := Tryz.prog) w B 33 ty 90 i0 _ 8 64 Tryz.underlying33 hi hz hs hby rfl (by decide) v n _ hown ⟨b, off, none⟩ m cap (cellsT h m) (cellsT_length h m)
      (fun j u hu => by
        obtain ⟨i, q, hi, hq, rfl, rfl⟩ := cellsT_at h m j u hu
        rw [Go.WideShapes.add_plain, ← Nat.add_assoc]
        exact hc i hi q hq) (cellsT_one h m) h63 hbytes hB
    exact ⟨v', w', hrun, h2, h3, h5⟩

theorem wp_append_tms {o : Oper} {a : Act} {K : Act → World → Prop} {Q : Exit → Act → World → Prop} {w : World} (s x : Operand)
    (ho : o.op = .call { callee := .builtin .append, args := #[s, x], argTypes := #[33, 33] })
    (B : Nat) (v : Value) (n : Nat) (f : Tms) (hs : a.eval s = v) (hown : w.ownsRow B 90 8 v n (cellsT f n)) (y : Value) (m : Nat) (h : Tms) (hx : a.eval x = y) (hrow : RowTAt w y m h) (hn : n + m ≤ 2097152) (hB : B ≤ w.heap.size)
    (hK : ∀ v' w', w'.ownsRow B 90 8 v' (n + m) (cellsT f n ++ cellsT h m) → w.grownBy w' v.ownBlock → (v'.ownBlock = v.ownBlock ∨ v'.ownBlock = some w.heap.size) → K (a.put o.dst v') w') : o.wp Tryz.prog a w K Q := by
  obtain ⟨v', w', hr, h2, h3, h4⟩ := run_append_tms w B o.type v n f hown y m h hrow hn hB
  unfold Oper.wp execOp
  simp only [ho, resolve, invoke, builtin, Sem.run_bind, Sem.run_pure, Result.andThen_ok, List.map_toArray, List.map_cons, List.map_nil, hs, hx, hr]
  exact hK v' w' h2 h3 h4
theorem wpList_append_tms {ops : Array Oper} {rest : List Oper} {o : Oper} {a : Act} {Q : Exit → Act → World → Prop} {w : World} (hgd : o.guard = none) (s x : Operand)
    (ho : o.op = .call { callee := .builtin .append, args := #[s, x], argTypes := #[33, 33] })
    (B : Nat) (v : Value) (n : Nat) (f : Tms) (hs : a.eval s = v) (hown : w.ownsRow B 90 8 v n (cellsT f n)) (y : Value) (m : Nat) (h : Tms) (hx : a.eval x = y) (hrow : RowTAt w y m h) (hn : n + m ≤ 2097152) (hB : B ≤ w.heap.size)
    (hK : ∀ v' w', w'.ownsRow B 90 8 v' (n + m) (cellsT f n ++ cellsT h m) → w.grownBy w' v.ownBlock → (v'.ownBlock = v.ownBlock ∨ v'.ownBlock = some w.heap.size) → wpList Tryz.prog ops Q rest (a.put o.dst v') w') : wpList Tryz.prog ops Q (o :: rest) a w :=
  wpList_plain hgd fun _ hK' => wp_append_tms s x ho B v n f hs hown y m h hx hrow hn hB fun v' w' h2 h3 h4 => hK' _ _ (hK v' w' h2 h3 h4)
theorem step_append_tms {ops : Array Oper} {o : Oper} {a : Act} {K : Act → World → Prop} {Q : Exit → Act → World → Prop} {E : Prop} {w : World} (hgd : o.guard = none) (s x : Operand)
    (ho : o.op = .call { callee := .builtin .append, args := #[s, x], argTypes := #[33, 33] })
    (B : Nat) (v : Value) (n : Nat) (f : Tms) (hs : a.eval s = v) (hown : w.ownsRow B 90 8 v n (cellsT f n)) (y : Value) (m : Nat) (h : Tms) (hx : a.eval x = y) (hrow : RowTAt w y m h) (hn : n + m ≤ 2097152) (hB : B ≤ w.heap.size)
    (hK : ∀ v' w', w'.ownsRow B 90 8 v' (n + m) (cellsT f n ++ cellsT h m) → w.grownBy w' v.ownBlock → (v'.ownBlock = v.ownBlock ∨ v'.ownBlock = some w.heap.size) → K (a.put o.dst v') w') :
    if Region.wanted o (yielded ops a.tmps) = true then Oper.wp Tryz.prog o a w K Q else E := by
  have hw : Region.wanted o (yielded ops a.tmps) = true := by simp [Region.wanted, hgd]
  rw [if_pos hw]
  exact wp_append_tms s x ho B v n f hs hown y m h hx hrow hn hB hK
theorem cellsT_congr {f g : Tms} : ∀ n, (∀ i, i < n → f i = g i) → cellsT f n = cellsT g n
  | 0, _ => rfl
  | n + 1, h => by rw [cellsT, cellsT, cellsT_congr n (fun i hi => h i (by omega)), h n (by omega)]
theorem cellsT_push (f : Tms) (n : Nat) (t : Tm) : cellsT f n ++ cellsT (fun _ => t) 1 = cellsT (putT f n t) (n + 1) := by
  rw [show cellsT (putT f n t) (n + 1) = cellsT (putT f n t) n ++ [.int .i64 ((putT f n t) n).st, .int .i64 ((putT f n t) n).wh, .int .i64 ((putT f n t) n).nx, .int .i64 ((putT f n t) n).pe, .int .i64 ((putT f n t) n).pl, .int .i64 ((putT f n t) n).ge, .int .i64 ((putT f n t) n).ki, .int .i64 ((putT f n t) n).ma] from rfl, cellsT_congr (f := putT f n t) (g := f) n (fun i hi => putT_other f (i := n) (k := i) t (by omega)), putT_same]
  rfl
/-- a list of no timers that was just made -/
theorem ownT_new (f : Tms) {w : World} {b B : Nat} (h : b = w.heap.size) (hB : B ≤ w.heap.size) : (w.alloc (.cells #[] 90)).ownsRow B 90 8 (.slice (some ⟨b, 0, none⟩) 0 0) 0 (cellsT f 0) := by
  subst h
  exact World.ownsRow_made w (base := B) (e := 90) (size := 8) #[] 0 hB (Nat.zero_le _) rfl

end Go.Proofs.YtflekodaiejflaaGreat

/-
  The builtin copy of a whole list into one that was just made, whatever the elements' size; the program's copyOf.
-/
namespace Go.Proofs.YtflekodaiejflaaGreat
open Go.RowKit Go.Joins
set_option linter.unusedVariables false
set_option linter.unusedSimpArgs false

theorem run_copy_whole {P : Program} (w : World) (T ty e : TypeId) (size : Nat) (g n : Nat) (v : Value) (cur : Array Value) (xs : List Value)
    (hu : P.underlying T = some (.slice e)) (hs : (P.info? e).map (·.size) = some size) (hv : (n = 0 ∧ ∃ a cap, v = .slice a 0 cap) ∨ ∃ ad cap, v = .slice (some ad) n cap ∧ ∀ j u, xs[j]? = some u → w.cell? (ad.add j) = some u)
    (hg : w.heap[g]? = some (.cells cur e (0, 0))) (hc : cur.size = n * size) (hl : xs.length = n * size) (h1 : ∀ u ∈ xs, u.oneCell' = true) :
    ∃ w', (Builtin.copy_ #[T, T] ty #[.slice (some ⟨g, 0, none⟩) n n, v]).run P w = .ok (goInt n) w' ∧ w'.heap[g]? = some (.cells xs.toArray e (0, 0)) ∧ w.grownBy w' (some g) := by
  cases hq : P.info? e with
  | none => simp [hq] at hs
  | some i =>
    have hi : i.size = size := by simpa [hq] using hs
    rcases hv with ⟨rfl, a, cap, rfl⟩ | ⟨ad, cap, rfl, hsrc⟩
    · have hx : xs = [] := List.eq_nil_of_length_eq_zero (by simpa using hl)
      subst hx
      have hcur : cur = #[] := Array.eq_empty_of_size_eq_zero (by simpa using hc)
      subst hcur
      refine ⟨w, ?_, hg, g_refl w _⟩
      have hld : ∀ (x : Addr), (loadCells x 0).run P w = .ok #[] w := fun x => by simpa using run_loadCells_list (P := P) w x [] (by simp)
      cases a <;> simp [Builtin.copy_, run_underlying hu, Builtin.lenOf, Builtin.firstCells, sizeOf, typeInfo, hq, storeCells, hld]
    · have hld := run_loadCells_list (P := P) w ad xs hsrc
      have hst := run_storeCells_at P g 0 e xs 0 cur w hg (by omega) h1
      refine ⟨w.setRow g xs.toArray, ?_, setRow_heap w g cur _ e _ hg, rfl, rfl, rfl, by simp, fun k _ hk => setRow_other w g k _ (fun h => hk (by rw [h]))⟩
      have hdrop : cur.toList.drop (0 + 0 + xs.length) = [] := List.drop_eq_nil_of_le (by simp; omega)
      rw [hdrop] at hst
      rw [hl] at hld
      have hst2 : (storeCells ⟨g, 0, none⟩ xs).run P w = .ok () (w.setRow g xs.toArray) := by simpa using hst
      simp [Builtin.copy_, run_underlying hu, Builtin.lenOf, Builtin.firstCells, sizeOf, typeInfo, hq, hi, hld, hst2]

theorem wpList_copy_whole {P : Program} {w : World} {ops : Array Oper} {rest : List Oper} {o : Oper} {a : Act} {Q : Exit → Act → World → Prop} (hgd : o.guard = none) (d s : Operand) (T : TypeId)
    (ho : o.op = .call { callee := .builtin .copy, args := #[d, s], argTypes := #[T, T] }) (e : TypeId) (size : Nat) (g n : Nat) (v : Value) (cur : Array Value) (xs : List Value)
    (hd : a.eval d = .slice (some ⟨g, 0, none⟩) n n) (hsv : a.eval s = v)
    (hu : P.underlying T = some (.slice e)) (hs : (P.info? e).map (·.size) = some size) (hv : (n = 0 ∧ ∃ a cap, v = .slice a 0 cap) ∨ ∃ ad cap, v = .slice (some ad) n cap ∧ ∀ j u, xs[j]? = some u → w.cell? (ad.add j) = some u)
    (hg : w.heap[g]? = some (.cells cur e (0, 0))) (hc : cur.size = n * size) (hl : xs.length = n * size) (h1 : ∀ u ∈ xs, u.oneCell' = true)
    (h : ∀ w', w'.heap[g]? = some (.cells xs.toArray e (0, 0)) → w.grownBy w' (some g) → wpList P ops Q rest (a.put o.dst (goInt n)) w') : wpList P ops Q (o :: rest) a w := by
  refine wpList_plain hgd fun K hK => ?_
  obtain ⟨w', hrun, h2, h3⟩ := run_copy_whole (P := P) w T o.type e size g n v cur xs hu hs hv hg hc hl h1
  unfold Oper.wp
  simp [execOp, ho, resolve, invoke, builtin, hd, hsv, hrun, Result.andThen]
  exact hK _ _ (h w' h2 h3)

theorem slot_info1 : (Tryz.prog.info? 133).map (fun i => (i.zero, i.size, i.bytes)) = some (some (.agg #[.int .i64 0, .int .i64 0]), 2, 16) := by kernel_rfl
theorem size_of_info {P : Program} {e : TypeId} {z : Option Value} {s b : Nat} (h : (P.info? e).map (fun i => (i.zero, i.size, i.bytes)) = some (z, s, b)) : (P.info? e).map (·.size) = some s := by
  cases hq : P.info? e with
  | none => simp [hq] at h
  | some i => simp [hq] at h ⊢; exact h.2.1
abbrev madeT (n : Nat) : Obj := .cells (madeCells #[.int .i64 0, .int .i64 0, .int .i64 0, .int .i64 0, .int .i64 0, .int .i64 0, .int .i64 0, .int .i64 0] (n * 8)) 90
theorem run_make_tms (n : Nat) (hn : n ≤ 1048576) : ∀ w : World, (Instr.makeSlice 33 (.int .i64 (n : Int)) (.int .i64 (n : Int))).run Tryz.prog w = .ok (.slice (some ⟨w.heap.size, 0, none⟩) n n) (w.alloc (madeT n)) := by
  intro w
  obtain ⟨i0, hi, hz, hs, hby⟩ := info_parts timer_info2
  have hr := run_make (P := Tryz.prog) w 33 90 i0 _ Tryz.underlying33 hi hz .i64 .i64 (n : Int) (n : Int) (by omega) (by omega) (by rw [hby]; omega) (by omega)
  rw [hs] at hr
  simp only [Int.toNat_natCast] at hr
  exact hr
abbrev madeS (n : Nat) : Obj := .cells (madeCells #[.int .i64 0, .int .i64 0] (n * 2)) 133
theorem run_make_slots2 (n : Nat) (hn : n ≤ 1048576) : ∀ w : World, (Instr.makeSlice 85 (.int .i64 (n : Int)) (.int .i64 (n : Int))).run Tryz.prog w = .ok (.slice (some ⟨w.heap.size, 0, none⟩) n n) (w.alloc (madeS n)) := by
  intro w
  obtain ⟨i0, hi, hz, hs, hby⟩ := info_parts slot_info1
  have hr := run_make (P := Tryz.prog) w 85 133 i0 _ Tryz.underlying85 hi hz .i64 .i64 (n : Int) (n : Int) (by omega) (by omega) (by rw [hby]; omega) (by omega)
  rw [hs] at hr
  simp only [Int.toNat_natCast] at hr
  exact hr

set_option maxRecDepth 100000 in
set_option maxHeartbeats 2000000 in
theorem copyT_any {v : Value} {n : Nat} {f : Tms} {w : World} (hn : n ≤ 1048576) (h : RowTAt w v n f) :
    Calls Tryz.prog 101 #[v] w fun e w' => ∃ u, e = .returned u ∧ OwnTRow w' w.heap.size u n f ∧ Below w.heap.size w w' := by
  have hmk := run_make_tms n hn
  obtain ⟨va, vc, hv⟩ := h.form
  have k0 := (Below.refl w.heap.size w).alloc (Nat.le_refl _) (madeT n)
  have H := Lib.hid (h.below k0)
  have hN := Lib.hid (heap_alloc_new w (madeT n))
  clear h
  subst hv
  obtain ⟨w2, hrun, hg2, hgr⟩ := run_copy_whole (P := Tryz.prog) (w.alloc (madeT n)) 33 3 90 8 w.heap.size n (.slice va n vc) _ (cellsT f n) Tryz.underlying33 (size_of_info timer_info2) (by
    rcases H.out with ⟨h0, a, cap, e⟩ | ⟨b, off, cap, e, hl, hc⟩
    · exact .inl ⟨h0, _, _, e⟩
    · refine .inr ⟨_, _, e, fun j u hu => ?_⟩
      obtain ⟨i, q, hi, hq, rfl, rfl⟩ := cellsT_at f n j u hu
      rw [Go.WideShapes.add_plain, ← Nat.add_assoc]
      exact hc i hi q hq) hN.out (size_madeCells _ _) (cellsT_length f n) (cellsT_one f n)
  go_enter Tryz.func101, Tryz.ntmps101
  go_wp2
  have kn := k0.trans (b_grown hgr (Nat.le_refl _) k0.size)
  go_ret
  refine ⟨_, rfl, ownT_of_row ⟨cellsT_length f n, .inr ⟨w.heap.size, n, _, rfl, Nat.le_refl _, hg2, Nat.le_refl _, by unfold maxLen; omega, by simp [cellsT_length], ?_⟩⟩, kn⟩
  rw [← cellsT_length f n]; simp

set_option maxRecDepth 100000 in
set_option maxHeartbeats 2000000 in
theorem copyS_any {v : Value} {n : Nat} {f : Slots} {w : World} (hn : n ≤ 1048576) (h : RowAt w v n f) :
    Calls Tryz.prog 102 #[v] w fun e w' => ∃ u, e = .returned u ∧ OwnRow w' w.heap.size u n f ∧ Below w.heap.size w w' := by
  have hmk := run_make_slots2 n hn
  obtain ⟨va, vc, hv⟩ := h.form
  have k0 := (Below.refl w.heap.size w).alloc (Nat.le_refl _) (madeS n)
  have H := Lib.hid (h.below k0)
  have hN := Lib.hid (heap_alloc_new w (madeS n))
  clear h
  subst hv
  obtain ⟨w2, hrun, hg2, hgr⟩ := run_copy_whole (P := Tryz.prog) (w.alloc (madeS n)) 85 3 133 2 w.heap.size n (.slice va n vc) _ (cellsF f n) Tryz.underlying85 (size_of_info slot_info1) (by
    rcases H.out with ⟨h0, a, cap, e⟩ | ⟨b, off, cap, e, hl, hc⟩
    · exact .inl ⟨h0, _, _, e⟩
    · refine .inr ⟨_, _, e, fun j u hu => ?_⟩
      obtain ⟨i, hi, ⟨rfl, rfl⟩ | ⟨rfl, rfl⟩⟩ := cellsF_at f n j u hu
      · rw [Go.WideShapes.add_plain]; exact (hc i hi).1
      · rw [Go.WideShapes.add_plain, ← Nat.add_assoc]; exact (hc i hi).2) hN.out (size_madeCells _ _) (cellsF_length f n) (cellsF_one f n)
  go_enter Tryz.func102, Tryz.ntmps102
  go_wp2
  have kn := k0.trans (b_grown hgr (Nat.le_refl _) k0.size)
  go_ret
  refine ⟨_, rfl, own_of_row ⟨cellsF_length f n, .inr ⟨w.heap.size, n, _, rfl, Nat.le_refl _, hg2, Nat.le_refl _, by unfold maxLen; omega, by simp [cellsF_length], ?_⟩⟩, kn⟩
  rw [← cellsF_length f n]; simp

end Go.Proofs.YtflekodaiejflaaGreat

/-
  Blocks of other types are other blocks: what is written into one leaves the other.
-/
namespace Go.Proofs.YtflekodaiejflaaGreat
open Go.RowKit Go.Joins
set_option linter.unusedVariables false
set_option linter.unusedSimpArgs false

/-- blocks of other types are other blocks -/
theorem ne_ty {w : World} {b g : Nat} {c1 c2 : Array Value} {t1 t2 : TypeId} (h1 : w.heap[b]? = some (.cells c1 t1 (0, 0))) (h2 : w.heap[g]? = some (.cells c2 t2 (0, 0))) (h : t1 ≠ t2) : b ≠ g := by
  rintro rfl
  rw [h1] at h2
  injection h2 with h2
  injection h2 with _ h3 _
  exact h h3
theorem OwnTRow.other {w w' : World} {B n x : Nat} {v : Value} {f : Tms} {cx : Array Value} {tx : TypeId} (h : OwnTRow w B v n f) (hx : w.heap[x]? = some (.cells cx tx (0, 0))) (ht : 90 ≠ tx) (e : ∀ y, y ≠ x → w'.heap[y]? = w.heap[y]?) : OwnTRow w' B v n f := by
  rcases h with h | ⟨g, cap, ev, h⟩
  · exact .inl h
  · refine .inr ⟨g, cap, ev, h.block (e g ?_)⟩
    obtain ⟨_, _, _, cur, hh, _⟩ := h
    exact ne_ty hh hx ht
theorem heap_set3 (w : World) (b : Nat) (x y z : Value) {k : Nat} (hk : k ≠ b) : (((w.setCell ⟨b, 0, none⟩ x).setCell ⟨b, 1, none⟩ y).setCell ⟨b, 2, none⟩ z).heap[k]? = w.heap[k]? :=
  (Below.heap_setCell _ ⟨b, 2, none⟩ z k hk).trans ((Below.heap_setCell _ ⟨b, 1, none⟩ y k hk).trans (Below.heap_setCell _ ⟨b, 0, none⟩ x k hk))
/-- a block of another type than a slots' list's -/
theorem own_ne {w : World} {B n x : Nat} {v : Value} {f : Slots} {cx : Array Value} {tx : TypeId} (ho : OwnRow w B v n f) (hx : w.heap[x]? = some (.cells cx tx (0, 0))) (ht : 133 ≠ tx) : ∀ y, v.ownBlock = some y → y ≠ x := by
  intro y hy
  rcases ho with ⟨_, rfl⟩ | ⟨g', cap', rfl, ho⟩
  · simp [Value.ownBlock] at hy
  · simp [Value.ownBlock] at hy
    subst hy
    obtain ⟨_, _, _, cur', hh', _⟩ := ho
    exact ne_ty hh' hx ht

end Go.Proofs.YtflekodaiejflaaGreat

/-
  A memory as the program works with it (chapter 5): of the call's own.
-/
namespace Go.Proofs.YtflekodaiejflaaGreat
open Go.RowKit Go.Joins
set_option linter.unusedVariables false
set_option linter.unusedSimpArgs false

/-- only the slots' list of one processor is stored -/
theorem ListXAt.putH {w : World} {B g m cap : Nat} {P : Pcs} {V : Nat → Value} (h : ListXAt w B g m cap P V) {k : Nat} (hk : k < m) (u : Value) : ListXAt (w.setCell ⟨g, k * 4 + 1, none⟩ u) B g m cap P (putV V k u) := by
  obtain ⟨h1, h2, h3, cur, hh, hs, hr⟩ := h
  refine ⟨h1, h2, h3, _, block_setCell hh (i := k * 4 + 1) _, by simp [hs], fun i hi => ?_⟩
  obtain ⟨x0, x1, x2, x3⟩ := hr i hi
  have hx : k * 4 + 1 < cur.size := by omega
  refine ⟨?_, ?_, ?_, ?_⟩
  · rw [Array.getElem?_setIfInBounds_ne (by omega)]; exact x0
  · by_cases e : i = k
    · subst e; rw [putV_same, Array.getElem?_setIfInBounds_self_of_lt hx]
    · rw [putV_other V u e, Array.getElem?_setIfInBounds_ne (by omega)]; exact x1
  · rw [Array.getElem?_setIfInBounds_ne (by omega)]; exact x2
  · rw [Array.getElem?_setIfInBounds_ne (by omega)]; exact x3
theorem ListXAt.ne_mem {w : World} {B g m cap mb : Nat} {P : Pcs} {V : Nat → Value} {a b c k : Int} {tv pv : Value} (h : ListXAt w B g m cap P V) (hm : w.heap[mb]? = some (memB a b c k tv pv)) : g ≠ mb := by
  obtain ⟨_, _, _, cur, hh, _⟩ := h
  exact ne_ty hh hm (by decide)
theorem ListXAt.ne_heap {w : World} {B g m cap B' n : Nat} {P : Pcs} {V : Nat → Value} {v : Value} {f : Slots} (h : ListXAt w B g m cap P V) (ho : OwnRow w B' v n f) : ∀ x, v.ownBlock = some x → x ≠ g := by
  intro x hx
  rcases ho with ⟨_, rfl⟩ | ⟨g', cap', rfl, ho⟩
  · simp [Value.ownBlock] at hx
  · simp [Value.ownBlock] at hx
    subst hx
    obtain ⟨_, _, _, cur, hh, _⟩ := h
    obtain ⟨_, _, _, cur', hh', _⟩ := ho
    exact ne_ty hh' hh (by decide)
theorem own_ne_mem {w : World} {B n mb : Nat} {v : Value} {f : Slots} {a b c k : Int} {tv pv : Value} (ho : OwnRow w B v n f) (hm : w.heap[mb]? = some (memB a b c k tv pv)) : ∀ x, v.ownBlock = some x → x ≠ mb := by
  intro x hx
  rcases ho with ⟨_, rfl⟩ | ⟨g', cap', rfl, ho⟩
  · simp [Value.ownBlock] at hx
  · simp [Value.ownBlock] at hx
    subst hx
    obtain ⟨_, _, _, cur', hh', _⟩ := ho
    exact ne_ty hh' hm (by decide)
/-- a memory of the call's own: its block, its timers, its processors, their slots -/
def OwnedAt (w : World) (B mb : Nat) (a b c : Int) (M : Me) : Prop :=
  ∃ tv g V, B ≤ mb ∧ w.heap[mb]? = some (memB a b c M.c tv (.slice (some ⟨g, 0, none⟩) M.pn M.pn)) ∧ OwnTRow w B tv M.tn M.t ∧ ListXAt w B g M.pn M.pn M.p V ∧ HeapsAt w B M.pn M.p V
theorem OwnedAt.below {w w' : World} {B mb : Nat} {a b c : Int} {M : Me} (h : OwnedAt w B mb a b c M) (hb : Below w.heap.size w w') : OwnedAt w' B mb a b c M := by
  obtain ⟨tv, g, V, h0, h1, h2, h3, h4⟩ := h
  exact ⟨tv, g, V, h0, b_block hb h1 (lt_of_block h1), h2.below hb, h3.below hb, h4.below hb⟩
theorem OwnedAt.mono {w : World} {B B' mb : Nat} {a b c : Int} {M : Me} (h : OwnedAt w B mb a b c M) (hB : B' ≤ B) : OwnedAt w B' mb a b c M := by
  obtain ⟨tv, g, V, h0, h1, h2, h3, h4⟩ := h
  exact ⟨tv, g, V, Nat.le_trans hB h0, h1, h2.mono hB, h3.mono hB, h4.mono hB⟩
theorem OwnedAt.seen {w : World} {B mb : Nat} {a b c : Int} {M : Me} (h : OwnedAt w B mb a b c M) : SeenAt w mb a b c M := by
  obtain ⟨tv, g, V, _, h1, h2, h3, h4⟩ := h
  exact ⟨tv, _, h1, h2.row, h3.row (fun i hi => (h4.1 i hi).row)⟩

set_option maxRecDepth 100000 in
set_option maxHeartbeats 4000000 in
theorem ownMemory_no (a b c : Int) {tv pv : Value} {M : Me} {w : World} (hs : sizeM M ≤ 1048576) (h : MemAt w tv pv M) (hok : memOkB a b c M = false) :
    Calls Tryz.prog 74 #[.agg #[.int .i64 a, .int .i64 b, .int .i64 c], meV M.c tv pv] w fun x w' => x = .returned (.pointer none) ∧ Below w.heap.size w w' := by
  obtain ⟨va, vc, qa, qc, rfl, rfl⟩ := h.form
  have k0 := ((Below.refl w.heap.size w).alloc (Nat.le_refl _) (.cells #[.int .i64 a, .int .i64 b, .int .i64 c] 46)).alloc (by simp) (memO M.c (.slice va M.tn vc) (.slice qa M.pn qc) 36)
  have HM := Lib.hid (h.below k0)
  have HOK := Lib.hid hok
  clear h hok
  go_enter Tryz.func74, Tryz.ntmps74
  go_wp2_with fail
  go_at_call 96; refine (seenIn_any a b c hs HM.out).mono ?_; rintro x w1 ⟨mb, rfl, hS, hb⟩
  have k1 := k0.trans (hb.mono k0.size)
  go_wp2_with fail
  go_at_call 97; refine (memRight_any hs (hS.seen hb)).mono ?_; rintro x w2 ⟨rfl, hb2⟩; rw [HOK.out]
  go_wp2
  go_ret
  exact ⟨rfl, k1.trans (hb2.mono k1.size)⟩

set_option maxRecDepth 100000 in
set_option maxHeartbeats 8000000 in
theorem ownMemory_yes (a b c : Int) {tv pv : Value} {M : Me} {w : World} (hs : sizeM M ≤ 1048576) (h : MemAt w tv pv M) (hok : memOkB a b c M = true) :
    Calls Tryz.prog 74 #[.agg #[.int .i64 a, .int .i64 b, .int .i64 c], meV M.c tv pv] w fun x w' => ∃ mb, x = .returned (ptrV mb) ∧ OwnedAt w' w.heap.size mb a b c M ∧ Below w.heap.size w w' := by
  obtain ⟨htn, hpn, hsl, hns⟩ := sizeM_le hs
  obtain ⟨va, vc, qa, qc, rfl, rfl⟩ := h.form
  have k0 := ((Below.refl w.heap.size w).alloc (Nat.le_refl _) (.cells #[.int .i64 a, .int .i64 b, .int .i64 c] 46)).alloc (by simp) (memO M.c (.slice va M.tn vc) (.slice qa M.pn qc) 36)
  have HM := Lib.hid (h.below k0)
  have HOK := Lib.hid hok
  have HNS := Lib.hid hns
  clear h hok hns hsl
  go_enter Tryz.func74, Tryz.ntmps74
  go_wp2_with fail
  generalize (w.alloc (.cells #[.int .i64 a, .int .i64 b, .int .i64 c] 46)).alloc (memO M.c (.slice va M.tn vc) (.slice qa M.pn qc) 36) = W at k0 HM ⊢
  go_at_call 96; refine (seenIn_any a b c hs HM.out).mono ?_; rintro x w1 ⟨mb, rfl, hS, hb⟩
  have hWs := k0.size
  have hS2 := fun (w2 : World) (hW : Below w1.heap.size w1 w2) => hS.below hW
  have hSA := hS.seen hb
  clear hS HM
  go_wp2_with fail
  go_at_call 97; refine (memRight_any hs hSA).mono ?_; rintro x w2 ⟨rfl, hb2⟩; rw [HOK.out]
  have k2 := hb.trans (hb2.mono hb.size)
  obtain ⟨tv, g, V0, hB0, hM2, hT0, hL2, hV0⟩ := hS2 w2 hb2
  clear hS2 hb hb2 hSA
  obtain ⟨ta, tc, htv⟩ := hT0.form
  subst htv
  have HV0 := Lib.hid hV0
  have lM2 := lt_of_block hM2
  obtain ⟨m0, m1, m2, m3, m4, m5⟩ := six hM2
  have mf4 := unfrozen_of_block hM2 4
  clear hV0
  go_wp2_with fail
  go_at_call 101; refine (copyT_any htn (hT0.below k2)).mono ?_; rintro x w3 ⟨u, rfl, hU, hb⟩
  have k3 := k2.trans (hb.mono k2.size)
  have hM3 := b_block hb hM2 lM2
  have hL3 := hL2.below hb
  have hU3 := hU.mono k2.size
  have hne := hL3.ne_mem hM3
  have hMs := block_setCell hM3 (i := 4) u
  have hUs := hU3.other (w' := w3.setCell ⟨mb, 4, none⟩ u) hM3 (by decide) (fun y hy => Below.heap_setCell w3 ⟨mb, 4, none⟩ u y hy)
  have hLs := hL3.block (Below.heap_setCell w3 ⟨mb, 4, none⟩ u g hne)
  have ks := k3.setCell (p := ⟨mb, 4, none⟩) hB0 u
  obtain ⟨n0, n1, n2, n3, n4, n5⟩ := six hM3
  have nf4 := unfrozen_of_block hM3 4
  obtain ⟨ua, uc, hu⟩ := hU.row.form
  subst hu
  obtain ⟨p0, p1, p2, p3, p4, p5⟩ := six hMs
  clear m0 m1 m2 m3 m4 m5 mf4 hb hM2 hL2 lM2 hU hU3 hL3 hM3 k2 k3
  go_wp2_with fail
  generalize w3.setCell ⟨mb, 4, none⟩ (.slice ua M.tn uc) = w4 at ks hLs hUs hMs p0 p1 p2 p3 p4 p5 ⊢
  clear n0 n1 n2 n3 n4 n5 nf4
  go_wp2_with fail
  clear p0 p1 p2 p3 p4 p5
  have hMs' : w4.heap[mb]? = some (memB a b c M.c (.slice ua M.tn uc) (.slice (some ⟨g, 0, none⟩) M.pn M.pn)) := hMs
  clear hMs
  go_loopw [26] (fun i wr => ∃ (k : Nat) (V : Nat → Value), k ≤ M.pn ∧ i = .int .i64 k ∧ wr.heap[mb]? = some (memB a b c M.c (.slice ua M.tn uc) (.slice (some ⟨g, 0, none⟩) M.pn M.pn)) ∧ OwnTRow wr W.heap.size (.slice ua M.tn uc) M.tn M.t ∧ ListXAt wr W.heap.size g M.pn M.pn M.p V ∧ HeapsAt wr W.heap.size k M.p V ∧ (∀ i, k ≤ i → i < M.pn → V i = V0 i) ∧ Below W.heap.size W wr) (fun i _ => M.pn - (intOf i).toNat)
  case atStart => exact ⟨0, V0, Nat.zero_le _, rfl, hMs', hUs, hLs, HeapsAt.zero _ _ _ _, fun _ _ _ => rfl, ks⟩
  case round =>
    clear hMs' hUs hLs ks
    obtain ⟨k, V, hk, rfl, hM, hU, hL, hH, hV, kw⟩ := hrel
    obtain ⟨m0, m1, m2, m3, m4, m5⟩ := six hM
    by_cases hlt : k < M.pn
    · have i1 : (k : Int) < (M.pn : Int) := by omega
      have i0 : (0 : Int) ≤ (k : Int) := by omega
      have hnk := HNS.out k hlt
      have hrow := (HV0.out k hlt).below kw
      rw [← hV k (Nat.le_refl _) hlt] at hrow
      obtain ⟨ra, rc, hr⟩ := hrow.form
      obtain ⟨d0, d1, d2, d3⟩ := hL.cells hlt
      have lM := lt_of_block hM
      rw [hr] at hrow d1
      go_wp2_with fail
      go_region_law (first
        | (go_simp; go_at_call 102; refine (copyS_any hnk hrow.drew).mono ?_; rintro x w5 ⟨v, rfl, hO, hb⟩
           replace hb := (Below.refl _ wr).drew.trans (hb.mono (Nat.le_refl _))
           have hM5 := b_block hb hM lM
           have hL5 := hL.below hb
           have fr := hL5.free
           have f1 := fr (k * 4 + 1)
           obtain ⟨b0, b1, b2, b3⟩ := hL5.cells hlt
           rw [hr] at b1
           obtain ⟨n0, n1, n2, n3, n4, n5⟩ := six hM5
           obtain ⟨oa, oc, ho⟩ := hO.value
           subst ho))
      all_goals
        have hU5 := hU.below hb
        have hH5 := hH.push hb kw.size (p := M.p k) hO
        have k5 := kw.trans (hb.mono kw.size)
        have hLn := hL5.putH hlt (.slice oa (M.p k).n oc)
        have hgm := hL5.ne_mem hM5
        have hMn := (Below.heap_setCell w5 ⟨g, k * 4 + 1, none⟩ (.slice oa (M.p k).n oc) mb (Ne.symm hgm)).trans hM5
        have hUn : OwnTRow (w5.setCell ⟨g, k * 4 + 1, none⟩ (.slice oa (M.p k).n oc)) W.heap.size (.slice ua M.tn uc) M.tn M.t := by
          obtain ⟨_, _, _, cur, hh, _⟩ := hL5
          exact hU5.other hh (by decide) (fun y hy => Below.heap_setCell w5 ⟨g, k * 4 + 1, none⟩ (.slice oa (M.p k).n oc) y hy)
        have hHn : HeapsAt (w5.setCell ⟨g, k * 4 + 1, none⟩ (.slice oa (M.p k).n oc)) W.heap.size (k + 1) M.p (putV V k (.slice oa (M.p k).n oc)) :=
          (hH5.other (fun i hi x hx => Below.heap_setCell w5 ⟨g, k * 4 + 1, none⟩ (.slice oa (M.p k).n oc) x (hL5.ne_heap (hH5.1 i hi) x hx))).congr (fun i hi => by unfold putP; split <;> simp_all) (fun _ _ => rfl)
        have kn := k5.setCell (p := ⟨g, k * 4 + 1, none⟩) hL5.1 (.slice oa (M.p k).n oc)
        have hVn : ∀ i, k + 1 ≤ i → i < M.pn → putV V k (.slice oa (M.p k).n oc) i = V0 i := fun i h1 h2 => by rw [putV_other V _ (by omega)]; exact hV i (by omega) h2
        clear n0 n1 n2 n3 n4 n5 m0 m1 m2 m3 m4 m5 d0 d1 d2 d3 b0 b1 b2 b3 f1 fr hH5 hU5 hL5 hM5 hb hO
        go_wp2
        exact ⟨⟨k + 1, _, by omega, by go_num, hMn, hUn, hLn, hHn, hVn, kn⟩, by simp only [intOf]; omega⟩
    · have hkn : k = M.pn := by omega
      subst hkn
      have i1 : ¬ (M.pn : Int) < (M.pn : Int) := by omega
      go_wp2
      go_ret
      exact ⟨mb, rfl, ⟨_, g, V, Nat.le_trans hWs hB0, hM, hU.mono hWs, hL.mono hWs, hH.mono hWs⟩, k0.trans (kw.mono hWs)⟩

end Go.Proofs.YtflekodaiejflaaGreat

/-
  A memory of the call's own whose lists of processors stands in a block that is known: what is written into it, cell by cell.
-/
namespace Go.Proofs.YtflekodaiejflaaGreat
open Go.RowKit Go.Joins
set_option linter.unusedVariables false
set_option linter.unusedSimpArgs false

/-! ### one number of a timer, of a processor -/
def tmSet (t : Tm) : Nat → Int → Tm
  | 0, x => { t with st := x }
  | 1, x => { t with wh := x }
  | 2, x => { t with nx := x }
  | 3, x => { t with pe := x }
  | 4, x => { t with pl := x }
  | 5, x => { t with ge := x }
  | 6, x => { t with ki := x }
  | 7, x => { t with ma := x }
  | _, _ => t
theorem tmAt_set (t : Tm) (x : Int) : ∀ j, j < 8 → ∀ i, i < 8 → tmAt (tmSet t j x) i = if i = j then x else tmAt t i := by
  apply below8 <;> (apply below8 <;> rfl)
def pcSet (p : Pc) : Nat → Int → Pc
  | 1, x => { p with l := x }
  | 2, x => { p with e := x }
  | 3, x => { p with d := x }
  | _, _ => p
def setTm (M : Me) (k j : Nat) (x : Int) : Me := { M with t := putT M.t k (tmSet (M.t k) j x) }
def setPc (M : Me) (k j : Nat) (x : Int) : Me := { M with p := putP M.p k (pcSet (M.p k) j x) }
def setHp (M : Me) (k n : Nat) (f : Slots) : Me := { M with p := putP M.p k { M.p k with n := n, f := f } }
theorem setTm_at (M : Me) (k j : Nat) (x : Int) : (setTm M k j x).t k = tmSet (M.t k) j x := by simp [setTm, putT]
theorem setTm_ne (M : Me) {k i : Nat} (j : Nat) (x : Int) (h : i ≠ k) : (setTm M k j x).t i = M.t i := by simp [setTm, putT, h]
theorem setPc_at (M : Me) (k j : Nat) (x : Int) : (setPc M k j x).p k = pcSet (M.p k) j x := by simp [setPc, putP]
theorem setPc_ne (M : Me) {k i : Nat} (j : Nat) (x : Int) (h : i ≠ k) : (setPc M k j x).p i = M.p i := by simp [setPc, putP, h]
theorem setHp_at (M : Me) (k n : Nat) (f : Slots) : (setHp M k n f).p k = { M.p k with n := n, f := f } := by simp [setHp, putP]
theorem setHp_ne (M : Me) {k i : Nat} (n : Nat) (f : Slots) (h : i ≠ k) : (setHp M k n f).p i = M.p i := by simp [setHp, putP, h]

/-! ### what is written into a list's block -/
theorem OwnTAt.set1 {w : World} {B g n cap : Nat} {f : Tms} (h : OwnTAt w B g n cap f) {k j : Nat} (hk : k < n) (hj : j < 8) (x : Int) : OwnTAt (w.setCell ⟨g, k * 8 + j, none⟩ (.int .i64 x)) B g n cap (putT f k (tmSet (f k) j x)) := by
  obtain ⟨h1, h2, h3, cur, hh, hs, hr⟩ := h
  refine ⟨h1, h2, h3, _, block_setCell hh (i := k * 8 + j) _, by simp [hs], fun i hi q hq => ?_⟩
  have hc := hr i hi q hq
  by_cases e : i = k
  · subst e
    rw [putT_same, tmAt_set (f i) x j hj q hq]
    by_cases eq : q = j
    · subst eq
      simp only [Array.getElem?_setIfInBounds, if_true]
      rw [if_pos (by omega)]
    · rw [Array.getElem?_setIfInBounds_ne (by omega), if_neg eq]; exact hc
  · rw [putT_other f _ e, Array.getElem?_setIfInBounds_ne (by omega)]; exact hc
theorem OwnTRow.at {w : World} {B g n cap : Nat} {f : Tms} (h : OwnTRow w B (.slice (some ⟨g, 0, none⟩) n cap) n f) : OwnTAt w B g n cap f := by
  rcases h with ⟨_, h⟩ | ⟨g', cap', e, h⟩
  · injection h with h; cases h
  · injection e with e1 e2 e3
    injection e1 with e1
    injection e1 with e1
    subst e1; subst e3; exact h
theorem OwnTRow.len {w : World} {B m n : Nat} {a : Option Addr} {cap : Nat} {f : Tms} (h : OwnTRow w B (.slice a m cap) n f) : m = n := by
  obtain ⟨a', c', e⟩ := h.row.form
  injection e
theorem ListAt.set1 {w : World} {B g m cap : Nat} {P : Pcs} {V : Nat → Value} (h : ListAt w B g m cap P V) {k j : Nat} (hk : k < m) (hj : j = 1 ∨ j = 2 ∨ j = 3) (x : Int) : ListAt (w.setCell ⟨g, k * 4 + j, none⟩ (.int .i64 x)) B g m cap (putP P k (pcSet (P k) j x)) V := by
  obtain ⟨h1, h2, h3, cur, hh, hs, hr⟩ := h
  refine ⟨h1, h2, h3, _, block_setCell hh (i := k * 4 + j) _, by simp [hs], fun i hi => ?_⟩
  obtain ⟨x0, x1, x2, x3⟩ := hr i hi
  by_cases e : i = k
  · subst e
    rw [putP_same]
    rcases hj with rfl | rfl | rfl
    all_goals
      refine ⟨?_, ?_, ?_, ?_⟩
      all_goals first
        | (simp only [Array.getElem?_setIfInBounds, if_true, pcSet]; rw [if_pos (by omega)])
        | (rw [Array.getElem?_setIfInBounds_ne (by omega)]; assumption)
  · rw [putP_other P _ e]
    refine ⟨?_, ?_, ?_, ?_⟩
    all_goals (rw [Array.getElem?_setIfInBounds_ne (by omega)]; assumption)
theorem ListAt.set0 {w : World} {B g m cap : Nat} {P : Pcs} {V : Nat → Value} (h : ListAt w B g m cap P V) {k : Nat} (hk : k < m) (u : Value) (n : Nat) (f : Slots) : ListAt (w.setCell ⟨g, k * 4, none⟩ u) B g m cap (putP P k { P k with n := n, f := f }) (putV V k u) := by
  obtain ⟨h1, h2, h3, cur, hh, hs, hr⟩ := h
  refine ⟨h1, h2, h3, _, block_setCell hh (i := k * 4) _, by simp [hs], fun i hi => ?_⟩
  obtain ⟨x0, x1, x2, x3⟩ := hr i hi
  by_cases e : i = k
  · subst e
    rw [putP_same, putV_same]
    refine ⟨?_, ?_, ?_, ?_⟩
    · simp only [Array.getElem?_setIfInBounds, if_true]; rw [if_pos (by omega)]
    all_goals (rw [Array.getElem?_setIfInBounds_ne (by omega)]; assumption)
  · rw [putP_other P _ e, putV_other V u e]
    refine ⟨?_, ?_, ?_, ?_⟩
    all_goals (rw [Array.getElem?_setIfInBounds_ne (by omega)]; assumption)

/-! ### the memory, opened -/
structure OpenMem (w : World) (B : Nat) (tv : Value) (pg pc : Nat) (V : Nat → Value) (M : Me) : Prop where
  t : OwnTRow w B tv M.tn M.t
  l : ListAt w B pg M.pn pc M.p V
  h : HeapsAt w B M.pn M.p V
theorem OpenMem.own {w : World} {B pg pc : Nat} {tv : Value} {V : Nat → Value} {M : Me} (h : OpenMem w B tv pg pc V M) : OwnMem w B tv (.slice (some ⟨pg, 0, none⟩) M.pn pc) M :=
  ⟨h.t, .inr ⟨pg, pc, V, rfl, h.l, h.h⟩⟩
theorem OwnMem.openP {w : World} {B : Nat} {tv pv : Value} {M : Me} (h : OwnMem w B tv pv M) {k : Nat} (hk : k < M.pn) : ∃ pg pc V, pv = .slice (some ⟨pg, 0, none⟩) M.pn pc ∧ OpenMem w B tv pg pc V M := by
  obtain ⟨ht, hp⟩ := h
  rcases hp with ⟨h0, _⟩ | ⟨g, cap, V, e, h1, h2⟩
  · omega
  · exact ⟨g, cap, V, e, ht, h1, h2⟩
theorem OpenMem.tms {w : World} {B pg pc : Nat} {tv : Value} {V : Nat → Value} {M : Me} (h : OpenMem w B tv pg pc V M) {k : Nat} (hk : k < M.tn) : ∃ tg tc, tv = .slice (some ⟨tg, 0, none⟩) M.tn tc ∧ OwnTAt w B tg M.tn tc M.t := by
  rcases h.t with ⟨h0, _⟩ | ⟨g, cap, e, h1⟩
  · omega
  · exact ⟨g, cap, e, h1⟩
theorem OwnMem.tms {w : World} {B : Nat} {tv pv : Value} {M : Me} (h : OwnMem w B tv pv M) {k : Nat} (hk : k < M.tn) : ∃ tg tc, tv = .slice (some ⟨tg, 0, none⟩) M.tn tc ∧ OwnTAt w B tg M.tn tc M.t := by
  rcases h.1 with ⟨h0, _⟩ | ⟨g, cap, e, h1⟩
  · omega
  · exact ⟨g, cap, e, h1⟩
theorem OpenMem.below {w w' : World} {B pg pc : Nat} {tv : Value} {V : Nat → Value} {M : Me} (h : OpenMem w B tv pg pc V M) (hb : Below w.heap.size w w') : OpenMem w' B tv pg pc V M :=
  ⟨h.t.below hb, h.l.below hb, h.h.below hb⟩
theorem ListAt.hh {w : World} {B g m cap : Nat} {P : Pcs} {V : Nat → Value} (h : ListAt w B g m cap P V) : ∃ cs : Array Value, w.heap[g]? = some (.cells cs 87 (0, 0)) := h.typed
theorem OpenMem.other {w w' : World} {B pg pc x : Nat} {tv : Value} {V : Nat → Value} {M : Me} {cx : Array Value} {tx : TypeId} (h : OpenMem w B tv pg pc V M) (hx : w.heap[x]? = some (.cells cx tx (0, 0)))
    (h1 : 90 ≠ tx) (h2 : 87 ≠ tx) (h3 : 133 ≠ tx) (e : ∀ y, y ≠ x → w'.heap[y]? = w.heap[y]?) : OpenMem w' B tv pg pc V M := by
  obtain ⟨cs, hcs⟩ := h.l.hh
  exact ⟨h.t.other hx h1 e, h.l.block (e pg (ne_ty hcs hx h2)), h.h.other (fun i hi y hy => e y (own_ne (h.h.1 i hi) hx h3 y hy))⟩
theorem OwnMem.other {w w' : World} {B x : Nat} {tv pv : Value} {M : Me} {cx : Array Value} {tx : TypeId} (h : OwnMem w B tv pv M) (hx : w.heap[x]? = some (.cells cx tx (0, 0)))
    (h1 : 90 ≠ tx) (h2 : 87 ≠ tx) (h3 : 133 ≠ tx) (e : ∀ y, y ≠ x → w'.heap[y]? = w.heap[y]?) : OwnMem w' B tv pv M := by
  refine ⟨h.1.other hx h1 e, ?_⟩
  rcases h.2 with h | ⟨g, cap, V, ev, hl, hh⟩
  · exact .inl h
  · obtain ⟨cs, hcs⟩ := hl.hh
    exact .inr ⟨g, cap, V, ev, hl.block (e g (ne_ty hcs hx h2)), hh.other (fun i hi y hy => e y (own_ne (hh.1 i hi) hx h3 y hy))⟩
theorem heap_set1 (w : World) (b o : Nat) (x : Value) : ∀ y, y ≠ b → (w.setCell ⟨b, o, none⟩ x).heap[y]? = w.heap[y]? := fun y hy => Below.heap_setCell w ⟨b, o, none⟩ x y hy

theorem OpenMem.setT {w : World} {n B pg pc g cap : Nat} {V : Nat → Value} {M : Me} (h : OpenMem w B (.slice (some ⟨g, 0, none⟩) n cap) pg pc V M) {k j : Nat} (hk : k < M.tn) (hj : j < 8) (x : Int) :
    OpenMem (w.setCell ⟨g, k * 8 + j, none⟩ (.int .i64 x)) B (.slice (some ⟨g, 0, none⟩) n cap) pg pc V (setTm M k j x) := by
  have hn := h.t.len
  subst hn
  have ht := h.t.at
  obtain ⟨cs, hcs⟩ := h.l.hh
  have hg : ∃ cur, w.heap[g]? = some (.cells cur 90 (0, 0)) := by obtain ⟨_, _, _, cur, hh, _⟩ := ht; exact ⟨cur, hh⟩
  obtain ⟨cur, hcur⟩ := hg
  exact ⟨(ht.set1 hk hj x).own, h.l.block (heap_set1 w g _ _ pg (ne_ty hcs hcur (by decide))), h.h.other (fun i hi y hy => heap_set1 w g _ _ y (own_ne (h.h.1 i hi) hcur (by decide) y hy))⟩
theorem OwnMem.setT {w : World} {n B g cap : Nat} {pv : Value} {M : Me} (h : OwnMem w B (.slice (some ⟨g, 0, none⟩) n cap) pv M) {k j : Nat} (hk : k < M.tn) (hj : j < 8) (x : Int) :
    OwnMem (w.setCell ⟨g, k * 8 + j, none⟩ (.int .i64 x)) B (.slice (some ⟨g, 0, none⟩) n cap) pv (setTm M k j x) := by
  have hn := h.1.len
  subst hn
  have ht := h.1.at
  have hg : ∃ cur, w.heap[g]? = some (.cells cur 90 (0, 0)) := by obtain ⟨_, _, _, cur, hh, _⟩ := ht; exact ⟨cur, hh⟩
  obtain ⟨cur, hcur⟩ := hg
  refine ⟨(ht.set1 hk hj x).own, ?_⟩
  rcases h.2 with h | ⟨pg, pc, V, ev, hl, hh⟩
  · exact .inl h
  · obtain ⟨cs, hcs⟩ := hl.hh
    exact .inr ⟨pg, pc, V, ev, hl.block (heap_set1 w g _ _ pg (ne_ty hcs hcur (by decide))), hh.other (fun i hi y hy => heap_set1 w g _ _ y (own_ne (hh.1 i hi) hcur (by decide) y hy))⟩
theorem OpenMem.setP {w : World} {B pg pc : Nat} {tv : Value} {V : Nat → Value} {M : Me} (h : OpenMem w B tv pg pc V M) {k j : Nat} (hk : k < M.pn) (hj : j = 1 ∨ j = 2 ∨ j = 3) (x : Int) :
    OpenMem (w.setCell ⟨pg, k * 4 + j, none⟩ (.int .i64 x)) B tv pg pc V (setPc M k j x) := by
  obtain ⟨cs, hcs⟩ := h.l.hh
  refine ⟨h.t.other hcs (by decide) (heap_set1 w pg _ _), h.l.set1 hk hj x, ?_⟩
  have hh := h.h.other (w' := w.setCell ⟨pg, k * 4 + j, none⟩ (.int .i64 x)) (fun i hi y hy => heap_set1 w pg _ _ y (own_ne (h.h.1 i hi) hcs (by decide) y hy))
  refine ⟨fun i hi => ?_, hh.2⟩
  have hi2 := hh.1 i hi
  show OwnRow _ B (V i) (putP M.p k (pcSet (M.p k) j x) i).n (putP M.p k (pcSet (M.p k) j x) i).f
  by_cases e : i = k
  · subst e
    rw [putP_same]
    rcases hj with rfl | rfl | rfl <;> exact hi2
  · rw [putP_other M.p _ e]; exact hi2
/-- another list of slots, in a block of its own -/
theorem OpenMem.setH {w : World} {B pg pc : Nat} {tv : Value} {V : Nat → Value} {M : Me} (h : OpenMem w B tv pg pc V M) {k n : Nat} {f : Slots} {u : Value} (hk : k < M.pn) (ho : OwnRow w B u n f)
    (hap : ∀ i, i < M.pn → i ≠ k → ∀ x, (V i).ownBlock = some x → u.ownBlock ≠ some x) :
    OpenMem (w.setCell ⟨pg, k * 4, none⟩ u) B tv pg pc (putV V k u) (setHp M k n f) := by
  obtain ⟨cs, hcs⟩ := h.l.hh
  refine ⟨h.t.other hcs (by decide) (heap_set1 w pg _ _), h.l.set0 hk u n f, ?_⟩
  have hh := h.h.other (w' := w.setCell ⟨pg, k * 4, none⟩ u) (fun i hi y hy => heap_set1 w pg _ _ y (own_ne (h.h.1 i hi) hcs (by decide) y hy))
  have hu : OwnRow (w.setCell ⟨pg, k * 4, none⟩ u) B u n f := by
    rcases ho with ho | ⟨x, cap, ev, hx⟩
    · exact .inl ho
    · refine .inr ⟨x, cap, ev, hx.block (heap_set1 w pg _ _ x ?_)⟩
      obtain ⟨_, _, _, cur', hh', _⟩ := hx
      exact ne_ty hh' hcs (by decide)
  refine ⟨fun i hi => ?_, fun i j hi hj hij x hx => ?_⟩
  · show OwnRow _ B (putV V k u i) (putP M.p k { M.p k with n := n, f := f } i).n (putP M.p k { M.p k with n := n, f := f } i).f
    by_cases e : i = k
    · subst e; rw [putP_same, putV_same]; exact hu
    · rw [putP_other M.p _ e, putV_other V u e]; exact hh.1 i hi
  · by_cases e : i = k
    · subst e
      rw [putV_same] at hx
      rw [putV_other V u (Ne.symm hij)]
      intro h2
      exact hap j hj (Ne.symm hij) x h2 hx
    · rw [putV_other V u e] at hx
      by_cases e2 : j = k
      · subst e2; rw [putV_same]; exact hap i hi e x hx
      · rw [putV_other V u e2]; exact h.h.2 i j hi hj hij x hx
/-- a list of slots that is newer than all the others -/
theorem OpenMem.setNew {w w' : World} {B pg pc : Nat} {tv : Value} {V : Nat → Value} {M : Me} (h : OpenMem w B tv pg pc V M) (hB : B ≤ w.heap.size) (hb : Below w.heap.size w w') {k n : Nat} {f : Slots} {u : Value} (hk : k < M.pn) (ho : OwnRow w' w.heap.size u n f) :
    OpenMem (w'.setCell ⟨pg, k * 4, none⟩ u) B tv pg pc (putV V k u) (setHp M k n f) := by
  refine (h.below hb).setH hk (ho.mono hB) (fun i hi _ x hx h2 => ?_)
  have h3 := (h.h.1 i hi).lt_size x hx
  rcases ho with ⟨_, rfl⟩ | ⟨y, cap, rfl, hy⟩
  · simp [Value.ownBlock] at h2
  · simp [Value.ownBlock] at h2
    subst h2
    have := hy.1
    omega

/-! ### what a call answers that works in a memory of its own -/
abbrev listsT : List TypeId := [90, 87, 133]
/-- written from B on, and of what there was only into lists of timers, of processors, of slots -/
structure Wk (B : Nat) (w w' : World) : Prop where
  below : Below B w w'
  keeps : KeepsBut listsT w w'
theorem Wk.refl (B : Nat) (w : World) : Wk B w w := ⟨Below.refl B w, KeepsBut.refl _ w⟩
theorem Wk.trans {B : Nat} {a b c : World} (h : Wk B a b) (k : Wk B b c) : Wk B a c := ⟨h.below.trans k.below, h.keeps.trans k.keeps⟩
theorem Wk.new {B : Nat} {a b c : World} (h : Wk B a b) (k : Below b.heap.size b c) (hB : B ≤ a.heap.size) : Wk B a c :=
  ⟨h.below.trans (k.mono (Nat.le_trans hB h.below.size)), h.keeps.trans (KeepsBut.of_below k)⟩
theorem Wk.of_new {B : Nat} {b c : World} (k : Below b.heap.size b c) (hB : B ≤ b.heap.size) : Wk B b c := ⟨k.mono hB, KeepsBut.of_below k⟩
theorem Wk.set {B : Nat} {a w : World} (h : Wk B a w) {g : Nat} {cs : Array Value} {t : TypeId} (hg : w.heap[g]? = some (.cells cs t (0, 0))) (hB : B ≤ g) (ht : t ∈ listsT) (o : Nat) (u : Value) : Wk B a (w.setCell ⟨g, o, none⟩ u) :=
  ⟨h.below.setCell (p := ⟨g, o, none⟩) hB u, h.keeps.set hg ht o u⟩
theorem Wk.setNew {B : Nat} {a w : World} (h : Wk B a w) {g : Nat} (hB : B ≤ a.heap.size) (hg : a.heap.size ≤ g) (o : Nat) (u : Value) : Wk B a (w.setCell ⟨g, o, none⟩ u) :=
  ⟨h.below.setCell (p := ⟨g, o, none⟩) (Nat.le_trans hB hg) u, fun x cs t hx ht => (Below.heap_setCell w ⟨g, o, none⟩ u x (by have := lt_of_block hx; show x ≠ g; omega)).trans (h.keeps x cs t hx ht)⟩
theorem Wk.setNew3 {B : Nat} {a w : World} (h : Wk B a w) {g : Nat} (hB : B ≤ a.heap.size) (hg : a.heap.size ≤ g) (x y z : Value) : Wk B a (((w.setCell ⟨g, 0, none⟩ x).setCell ⟨g, 1, none⟩ y).setCell ⟨g, 2, none⟩ z) :=
  ((h.setNew hB hg 0 x).setNew hB hg 1 y).setNew hB hg 2 z
theorem Wk.kept {B b : Nat} {w w' : World} (h : Wk B w w') {cs : Array Value} {t : TypeId} (hb : w.heap[b]? = some (.cells cs t (0, 0))) (ht : t ∉ listsT) : w'.heap[b]? = some (.cells cs t (0, 0)) := (h.keeps b cs t hb ht).trans hb
theorem OwnTAt.hh {w : World} {B g n cap : Nat} {f : Tms} (h : OwnTAt w B g n cap f) : ∃ cs : Array Value, w.heap[g]? = some (.cells cs 90 (0, 0)) := by
  obtain ⟨_, _, _, cur, hh, _⟩ := h
  exact ⟨cur, hh⟩
def InMe (B : Nat) (M : Me) (w : World) (e : Ending) (w' : World) : Prop := ∃ tv pv, e = .returned (meV M.c tv pv) ∧ OwnMem w' B tv pv M ∧ Wk B w w'
def InMeB (B : Nat) (M : Me) (b : Bool) (w : World) (e : Ending) (w' : World) : Prop := ∃ tv pv, e = .returned (.tuple #[meV M.c tv pv, .bool b]) ∧ OwnMem w' B tv pv M ∧ Wk B w w'
def InMeI (B : Nat) (M : Me) (i : Int) (w : World) (e : Ending) (w' : World) : Prop := ∃ tv pv, e = .returned (.tuple #[meV M.c tv pv, .int .i64 i]) ∧ OwnMem w' B tv pv M ∧ Wk B w w'

end Go.Proofs.YtflekodaiejflaaGreat

/-
  Tidying up, plainly (chapter 6): what a memory is behind it. No Go in sight.
-/
namespace Go.Proofs.YtflekodaiejflaaGreat
open Go.RowKit Go.Joins
set_option linter.unusedVariables false
set_option linter.unusedSimpArgs false

/-! ### the least one -/
def leastF (g : Nat → Bool) : Nat → Nat → Nat
  | 0, i => i
  | m + 1, i => if g i then i else leastF g m (i + 1)
theorem leastF_at {g : Nat → Bool} {i : Nat} (hg : g i = true) : ∀ m s, s ≤ i → i < s + m → (∀ j, s ≤ j → j < i → g j = false) → leastF g m s = i
  | 0, s, h1, h2, _ => by omega
  | m + 1, s, h1, h2, h => by
    rw [leastF]
    by_cases e : s = i
    · subst e; rw [hg]; rfl
    · rw [h s (Nat.le_refl _) (by omega)]
      exact leastF_at hg m (s + 1) (by omega) (by omega) (fun j h3 h4 => h j (by omega) h4)
theorem leastF_none {g : Nat → Bool} : ∀ m s, (∀ j, s ≤ j → j < s + m → g j = false) → leastF g m s = s + m
  | 0, s, _ => rfl
  | m + 1, s, h => by
    rw [leastF, h s (Nat.le_refl _) (by omega)]
    exact (leastF_none m (s + 1) (fun j h3 h4 => h j (by omega) (by omega))).trans (by omega)

/-! ### what is done to a memory -/
def pullM (M : Me) (k : Nat) (i : Int) : Me := setHp M k (pulledN (M.p k).n i) (pulledF (M.p k).f (M.p k).n i)
def pushM (M : Me) (t k : Nat) : Me := setHp (setTm (setTm M t 4 (k : Int)) t 0 1) k (pushedN (M.p k).n) (pushedF (M.p k).f (M.p k).n ((t : Int), (M.t t).wh))
theorem pullM_d (M : Me) (k : Nat) (i : Int) : ((pullM M k i).p k).d = (M.p k).d := by unfold pullM; rw [setHp_at]
def dropM (M : Me) (k i t : Nat) : Me := setPc (setTm (setTm (pullM M k (i : Int)) t 0 7) t 4 (-1)) k 3 ((M.p k).d - 1)
/-- is it to be tidied? -/
def todoB (t : Tm) : Bool := t.st == 5 || (t.st == 3 || t.st == 4)
/-- the timer of a slot -/
def slotT (M : Me) (k i : Nat) : Nat := ((M.p k).f i).1.toNat
def tidyI (M : Me) (k : Nat) : Nat := leastF (fun i => todoB (M.t (slotT M k i))) (M.p k).n 0
def tidiedB (M : Me) (k : Nat) : Bool := decide (tidyI M k < (M.p k).n)
/-- comes elsewhere in its heap -/
def moveM (M : Me) (k i t : Nat) : Me := pushM (pullM (setTm M t 1 (M.t t).nx) k (i : Int)) t k
def tidyAtM (M : Me) (k i : Nat) : Me := if (M.t (slotT M k i)).st = 5 then dropM M k i (slotT M k i) else moveM M k i (slotT M k i)
def tidiedM (M : Me) (k : Nat) : Me := if tidiedB M k then tidyAtM M k (tidyI M k) else setPc M k 2 (-1)
theorem tidied_at {M : Me} {k i : Nat} (hi : i < (M.p k).n) (hg : todoB (M.t (slotT M k i)) = true) (h : ∀ j, j < i → todoB (M.t (slotT M k j)) = false) : tidiedB M k = true ∧ tidiedM M k = tidyAtM M k i := by
  have e : tidyI M k = i := leastF_at (g := fun i => todoB (M.t (slotT M k i))) hg _ 0 (Nat.zero_le _) (by omega) (fun j _ h2 => h j h2)
  have e2 : tidiedB M k = true := by rw [tidiedB, e]; simpa using hi
  exact ⟨e2, by rw [tidiedM, if_pos e2, e]⟩
theorem tidied_none {M : Me} {k : Nat} (h : ∀ j, j < (M.p k).n → todoB (M.t (slotT M k j)) = false) : tidiedB M k = false ∧ tidiedM M k = setPc M k 2 (-1) := by
  have e : tidyI M k = 0 + (M.p k).n := leastF_none (g := fun i => todoB (M.t (slotT M k i))) _ 0 (fun j _ h2 => h j (by omega))
  have e2 : tidiedB M k = false := by rw [tidiedB, e]; simp
  exact ⟨e2, by rw [tidiedM, e2]; rfl⟩
theorem tidied_of {M : Me} {k : Nat} (h : tidiedB M k = true) : tidyI M k < (M.p k).n ∧ todoB (M.t (slotT M k (tidyI M k))) = true := by
  have h1 : tidyI M k < (M.p k).n := by simpa [tidiedB] using h
  refine ⟨h1, ?_⟩
  cases hc : todoB (M.t (slotT M k (tidyI M k))) with
  | true => rfl
  | false =>
    exfalso
    by_cases hx : ∃ j, j < (M.p k).n ∧ todoB (M.t (slotT M k j)) = true ∧ ∀ i, i < j → todoB (M.t (slotT M k i)) = false
    · obtain ⟨j, hj, hg, hm⟩ := hx
      have e : tidyI M k = j := leastF_at (g := fun i => todoB (M.t (slotT M k i))) hg _ 0 (Nat.zero_le _) (by omega) (fun i _ h2 => hm i h2)
      rw [e, hg] at hc
      cases hc
    · have hall : ∀ j, j < (M.p k).n → todoB (M.t (slotT M k j)) = false := by
        intro j
        induction j using Nat.strongRecOn with
        | _ j ih =>
          intro hj
          cases hc2 : todoB (M.t (slotT M k j)) with
          | false => rfl
          | true => exact absurd ⟨j, hj, hc2, fun i hi => ih i hi (by omega)⟩ hx
      have := (tidied_none hall).1
      rw [h] at this
      cases this
def armedB (M : Me) (t : Nat) : Bool := (M.t t).st == 2 && (M.t t).pl == -1
def armedM (M : Me) (t k : Nat) : Me := if armedB M t then pushM M t k else M
def rungB (M : Me) (k : Nat) : Bool := decide (0 < (M.p k).n) && ((M.t (slotT M k 0)).st == 1 && decide ((M.t (slotT M k 0)).wh ≤ M.c))
def rungM (M : Me) (k : Nat) : Me := if rungB M k then setTm M (slotT M k 0) 0 6 else M
def rungI (M : Me) (k : Nat) : Int := if rungB M k then (slotT M k 0 : Int) else -1
/-- how many Periods later -/
def timesI (c : Int) (t : Tm) : Int := if t.wh < c then 1 + (c - t.wh) / t.pe else 1
def nextI (c : Int) (t : Tm) : Int := minI (t.wh + t.pe * timesI c t) 1000000000
def rearmedB (M : Me) (t : Nat) : Bool := (M.t t).st == 6
def outM (M : Me) (t : Nat) : Me := pullM M (M.t t).pl.toNat (findFrom (M.p (M.t t).pl.toNat).f (M.p (M.t t).pl.toNat).n (t : Int) 0)
def rearmM (M : Me) (t : Nat) : Me := if (M.t t).pe = 0 then setTm (setTm (outM M t) t 0 0) t 4 (-1) else pushM (setTm (outM M t) t 1 (nextI M.c (M.t t))) t (M.t t).pl.toNat
def rearmedM (M : Me) (t : Nat) : Me := if rearmedB M t then rearmM M t else M
theorem times_bound {c : Int} {t : Tm} (hc : 0 ≤ c ∧ c ≤ 1000000000) (hw : 0 ≤ t.wh ∧ t.wh ≤ 1000000000) (hp : 0 < t.pe ∧ t.pe ≤ 1000000000) : 1 ≤ timesI c t ∧ timesI c t ≤ 1000000001 ∧ 0 ≤ t.pe * timesI c t ∧ t.pe * timesI c t ≤ 2000000000 := by
  unfold timesI
  split
  · have h1 : 0 ≤ (c - t.wh) / t.pe := Int.ediv_nonneg (by omega) (by omega)
    have h2 : t.pe * ((c - t.wh) / t.pe) ≤ c - t.wh := Int.mul_ediv_self_le (by omega)
    have h3 : (c - t.wh) / t.pe ≤ c - t.wh := Int.ediv_le_self _ (by omega)
    have h4 : t.pe * (1 + (c - t.wh) / t.pe) = t.pe + t.pe * ((c - t.wh) / t.pe) := by rw [Int.mul_add, Int.mul_one]
    have h5 : 0 ≤ t.pe * ((c - t.wh) / t.pe) := Int.mul_nonneg (by omega) h1
    rw [h4]
    omega
  · omega

/-! ### what a right memory tells -/
structure MemFacts (a b c : Int) (M : Me) : Prop where
  plan : planB a b c = true
  pn : (M.pn : Int) = a ∧ 1 ≤ a ∧ a ≤ 6
  tn : M.tn ≤ 30
  clock : 0 ≤ M.c ∧ M.c ≤ 999999999
  n : ∀ k, k < M.pn → (M.p k).n ≤ 30
  d : ∀ k, k < M.pn → 0 ≤ (M.p k).d ∧ (M.p k).d ≤ (M.p k).n
  slot : ∀ k, k < M.pn → ∀ i, i < (M.p k).n → ((M.p k).f i).1 = (slotT M k i : Int) ∧ slotT M k i < M.tn ∧ (M.t (slotT M k i)).pl = (k : Int) ∧ (M.t (slotT M k i)).wh = ((M.p k).f i).2
  tm : ∀ i, i < M.tn → timerB a b c (M.t i) = true
theorem slots_at {M : Me} {k e : Int} {f : Slots} : ∀ {n : Nat}, slotsOkB M k e f n = true → ∀ i, i < n → slotOkB M k (f i) = true
  | 0, _, i, hi => absurd hi (Nat.not_lt_zero _)
  | n + 1, h, i, hi => by
    rw [slotsOkB, Bool.and_eq_true, Bool.and_eq_true] at h
    by_cases e' : i = n
    · subst e'; exact h.2.1
    · exact slots_at h.1 i (by omega)
theorem memFacts {a b c : Int} {M : Me} (h : memOkB a b c M = true) : MemFacts a b c M := by
  simp only [memOkB, Bool.and_eq_true] at h
  obtain ⟨hp, hc, ht, hn, ha, hf⟩ := h
  have hp2 := planB_iff.1 hp
  have hc2 := inB_iff.1 hc
  have ht2 : (M.tn : Int) ≤ c := by simpa using ht
  have hn2 : (M.pn : Int) = a := by simpa using hn
  have hag : ∀ k, k < M.pn → agreeB a b c M k = true := fun k hk => allB_at ha k hk
  refine ⟨hp, ⟨hn2, hp2.1⟩, by omega, hc2, fun k hk => ?_, fun k hk => ?_, fun k hk i hi => ?_, fun i hi => ?_⟩
  · have := hag k hk
    simp only [agreeB, procOkB, Bool.and_eq_true, heapB, decide_eq_true_eq] at this
    exact this.1.2.1.2
  · have := hag k hk
    simp only [agreeB, procOkB, Bool.and_eq_true] at this
    exact inB_iff.1 this.1.2.2.2.2.1
  · have := hag k hk
    simp only [agreeB, Bool.and_eq_true] at this
    have hs := slots_at this.2.1 i hi
    simp only [slotOkB, Bool.and_eq_true] at hs
    have h1 := hasT_iff.1 hs.1
    have e : ((M.p k).f i).1 = (slotT M k i : Int) := by unfold slotT; omega
    exact ⟨e, by omega, by simpa [slotT] using hs.2.1, by simpa [slotT] using hs.2.2⟩
  · have := allB_at hf i hi
    simp only [fitB, Bool.and_eq_true] at this
    exact this.1
theorem slotsP_bound {P : Pcs} {x : Nat} : ∀ m, (∀ k, k < m → (P k).n ≤ x) → slotsP P m ≤ m * x
  | 0, _ => by simp [slotsP]
  | m + 1, h => by
    have h1 := slotsP_bound m (fun k hk => h k (by omega))
    have h2 := h m (by omega)
    rw [slotsP, Nat.succ_mul]
    omega
theorem sizeM_small {M : Me} (h1 : M.tn ≤ 30) (h2 : M.pn ≤ 6) (h3 : ∀ k, k < M.pn → (M.p k).n ≤ 31) : sizeM M ≤ 1048576 := by
  have h4 := slotsP_bound M.pn h3
  have h5 : M.pn * 31 ≤ 6 * 31 := Nat.mul_le_mul_right _ h2
  unfold sizeM
  omega
/-- no more than one slot more -/
structure Near (M N : Me) : Prop where
  tn : N.tn = M.tn
  pn : N.pn = M.pn
  c : N.c = M.c
  n : ∀ k, (N.p k).n ≤ (M.p k).n + 1
theorem Near.refl (M : Me) : Near M M := ⟨rfl, rfl, rfl, fun k => Nat.le_succ _⟩
theorem Near.size {a b c : Int} {M N : Me} (h : Near M N) (hf : MemFacts a b c M) : sizeM N ≤ 1048576 := by
  have := hf.pn
  refine sizeM_small (by rw [h.tn]; exact hf.tn) (by rw [h.pn]; omega) (fun k hk => ?_)
  have h1 := h.n k
  have h2 := hf.n k (by rw [← h.pn]; exact hk)
  omega
theorem setTm_p (M : Me) (t j : Nat) (x : Int) (k : Nat) : ((setTm M t j x).p k).n = (M.p k).n := rfl
theorem setPc_n (M : Me) (t j : Nat) (x : Int) (k : Nat) : ((setPc M t j x).p k).n = (M.p k).n := by
  by_cases e : k = t
  · subst e
    rw [setPc_at]
    match j with
    | 0 => rfl
    | 1 => rfl
    | 2 => rfl
    | 3 => rfl
    | j + 4 => rfl
  · rw [setPc_ne M j x e]
theorem pullM_n (M : Me) (t : Nat) (i : Int) (k : Nat) : ((pullM M t i).p k).n ≤ (M.p k).n := by
  unfold pullM
  by_cases e : k = t
  · subst e; rw [setHp_at]; unfold pulledN; split <;> simp
  · rw [setHp_ne M _ _ e]; exact Nat.le_refl _
theorem pushM_n (M : Me) (t x k : Nat) : ((pushM M t x).p k).n ≤ (M.p k).n + 1 := by
  unfold pushM
  by_cases e : k = x
  · subst e; rw [setHp_at]; show pushedN (M.p k).n ≤ (M.p k).n + 1; unfold pushedN; split <;> omega
  · rw [setHp_ne _ _ _ e]; exact Nat.le_succ _
theorem near_tidied (M : Me) (k : Nat) : Near M (tidiedM M k) := by
  unfold tidiedM
  split
  · unfold tidyAtM
    split
    · refine ⟨rfl, rfl, rfl, fun x => ?_⟩
      unfold dropM
      rw [setPc_n, setTm_p, setTm_p]
      exact Nat.le_trans (pullM_n _ _ _ _) (Nat.le_succ _)
    · refine ⟨rfl, rfl, rfl, fun x => ?_⟩
      unfold moveM
      exact Nat.le_trans (pushM_n _ _ _ _) (Nat.succ_le_succ (pullM_n _ _ _ _))
  · exact ⟨rfl, rfl, rfl, fun x => by rw [setPc_n]; exact Nat.le_succ _⟩
theorem near_armed (M : Me) (t k : Nat) : Near M (armedM M t k) := by
  unfold armedM
  split
  · exact ⟨rfl, rfl, rfl, fun x => pushM_n _ _ _ _⟩
  · exact Near.refl M
theorem near_rung (M : Me) (k : Nat) : Near M (rungM M k) := by
  unfold rungM
  split
  · exact ⟨rfl, rfl, rfl, fun x => Nat.le_succ _⟩
  · exact Near.refl M
theorem near_rearmed (M : Me) (t : Nat) : Near M (rearmedM M t) := by
  unfold rearmedM
  split
  · unfold rearmM
    split
    · exact ⟨rfl, rfl, rfl, fun x => Nat.le_trans (pullM_n _ _ _ _) (Nat.le_succ _)⟩
    · exact ⟨rfl, rfl, rfl, fun x => Nat.le_trans (pushM_n _ _ _ _) (Nat.succ_le_succ (pullM_n _ _ _ _))⟩
  · exact Near.refl M
/-- a running timer has a place -/
theorem running_at {a b c : Int} {M : Me} (hf : MemFacts a b c M) {t : Nat} (ht : t < M.tn) (h : (M.t t).st = 6) : ∃ k, k < M.pn ∧ (M.t t).pl = (k : Int) := by
  have h1 := hf.tm t ht
  simp only [timerB, placeB, Bool.and_eq_true] at h1
  have hp := h1.2.2.2.2.2.2.2.2.1
  have hin : inHeapB (M.t t).st = true := by rw [h]; rfl
  rw [hin] at hp
  simp only [if_true] at hp
  have h2 := (procB_iff.1 hp).2
  have h3 := hf.pn.1
  exact ⟨(M.t t).pl.toNat, by omega, by omega⟩
theorem times_at {a b c : Int} {M : Me} (hf : MemFacts a b c M) {t : Nat} (ht : t < M.tn) : (0 ≤ (M.t t).st ∧ (M.t t).st ≤ 7) ∧ (0 ≤ (M.t t).wh ∧ (M.t t).wh ≤ 1000000000) ∧ (0 ≤ (M.t t).nx ∧ (M.t t).nx ≤ 1000000000) ∧ (0 ≤ (M.t t).pe ∧ (M.t t).pe ≤ 1000000000) := by
  have h1 := hf.tm t ht
  simp only [timerB, Bool.and_eq_true] at h1
  exact ⟨inB_iff.1 h1.2.1, inB_iff.1 h1.2.2.1, inB_iff.1 h1.2.2.2.1, inB_iff.1 h1.2.2.2.2.1⟩
/-- the first slot of a timer that is to be tidied is the first one that is to be tidied -/
theorem find_todo {M : Me} {k i : Nat} (hids : ∀ j, j < (M.p k).n → ((M.p k).f j).1 = (slotT M k j : Int)) (hi : i < (M.p k).n) (hg : todoB (M.t (slotT M k i)) = true) (h : ∀ j, j < i → todoB (M.t (slotT M k j)) = false) :
    ∀ m s, s + m = i → findFrom (M.p k).f (M.p k).n (slotT M k i : Int) s = (i : Int)
  | 0, s, e => by
    have e : s = i := by omega
    subst e
    exact findFrom_here hi (hids s hi)
  | m + 1, s, e => by
    have hs : s < (M.p k).n := by omega
    rw [findFrom_next hs (fun e2 => by
      rw [hids s hs] at e2
      have e3 : slotT M k s = slotT M k i := by omega
      have := h s (by omega)
      rw [e3, hg] at this
      cases this)]
    exact find_todo hids hi hg h m (s + 1) (by omega)

end Go.Proofs.YtflekodaiejflaaGreat

/-
  A memory of the program's own (chapter 5), opened: what is written into it, cell by cell.
-/
namespace Go.Proofs.YtflekodaiejflaaGreat
open Go.RowKit Go.Joins
set_option linter.unusedVariables false
set_option linter.unusedSimpArgs false

/-- one number of a processor is stored -/
theorem ListXAt.set1 {w : World} {B g m cap : Nat} {P : Pcs} {V : Nat → Value} (h : ListXAt w B g m cap P V) {k j : Nat} (hk : k < m) (hj : j = 2 ∨ j = 3) (x : Int) : ListXAt (w.setCell ⟨g, k * 4 + j, none⟩ (.int .i64 x)) B g m cap (putP P k (pcSet (P k) j x)) V := by
  obtain ⟨h1, h2, h3, cur, hh, hs, hr⟩ := h
  refine ⟨h1, h2, h3, _, block_setCell hh (i := k * 4 + j) _, by simp [hs], fun i hi => ?_⟩
  obtain ⟨x0, x1, x2, x3⟩ := hr i hi
  by_cases e : i = k
  · subst e
    rw [putP_same]
    rcases hj with rfl | rfl
    all_goals
      refine ⟨?_, ?_, ?_, ?_⟩
      all_goals first
        | (simp only [Array.getElem?_setIfInBounds, if_true, pcSet]; rw [if_pos (by omega)])
        | (rw [Array.getElem?_setIfInBounds_ne (by omega)]; assumption)
  · rw [putP_other P _ e]
    refine ⟨?_, ?_, ?_, ?_⟩
    all_goals (rw [Array.getElem?_setIfInBounds_ne (by omega)]; assumption)
theorem ListXAt.set0 {w : World} {B g m cap : Nat} {P : Pcs} {V : Nat → Value} (h : ListXAt w B g m cap P V) {k : Nat} (hk : k < m) (u : Value) (n : Nat) (f : Slots) : ListXAt (w.setCell ⟨g, k * 4 + 1, none⟩ u) B g m cap (putP P k { P k with n := n, f := f }) (putV V k u) := by
  obtain ⟨h1, h2, h3, cur, hh, hs, hr⟩ := h
  refine ⟨h1, h2, h3, _, block_setCell hh (i := k * 4 + 1) _, by simp [hs], fun i hi => ?_⟩
  obtain ⟨x0, x1, x2, x3⟩ := hr i hi
  by_cases e : i = k
  · subst e
    rw [putP_same, putV_same]
    refine ⟨?_, ?_, ?_, ?_⟩
    · rw [Array.getElem?_setIfInBounds_ne (by omega)]; exact x0
    · simp only [Array.getElem?_setIfInBounds, if_true]; rw [if_pos (by omega)]
    all_goals (rw [Array.getElem?_setIfInBounds_ne (by omega)]; assumption)
  · rw [putP_other P _ e, putV_other V u e]
    refine ⟨?_, ?_, ?_, ?_⟩
    all_goals (rw [Array.getElem?_setIfInBounds_ne (by omega)]; assumption)
theorem ListXAt.hh {w : World} {B g m cap : Nat} {P : Pcs} {V : Nat → Value} (h : ListXAt w B g m cap P V) : ∃ cs : Array Value, w.heap[g]? = some (.cells cs 125 (0, 0)) := by
  obtain ⟨_, _, _, cur, hh, _⟩ := h
  exact ⟨cur, hh⟩

structure OpenX (w : World) (B mb : Nat) (a b c : Int) (tv : Value) (g : Nat) (V : Nat → Value) (M : Me) : Prop where
  m0 : B ≤ mb
  m : w.heap[mb]? = some (memB a b c M.c tv (.slice (some ⟨g, 0, none⟩) M.pn M.pn))
  t : OwnTRow w B tv M.tn M.t
  l : ListXAt w B g M.pn M.pn M.p V
  h : HeapsAt w B M.pn M.p V
theorem OpenX.own {w : World} {B mb g : Nat} {a b c : Int} {tv : Value} {V : Nat → Value} {M : Me} (h : OpenX w B mb a b c tv g V M) : OwnedAt w B mb a b c M := ⟨tv, g, V, h.m0, h.m, h.t, h.l, h.h⟩
theorem OwnedAt.opened {w : World} {B mb : Nat} {a b c : Int} {M : Me} (h : OwnedAt w B mb a b c M) : ∃ tv g V, OpenX w B mb a b c tv g V M := by
  obtain ⟨tv, g, V, h0, h1, h2, h3, h4⟩ := h
  exact ⟨tv, g, V, h0, h1, h2, h3, h4⟩
theorem OpenX.below {w w' : World} {B mb g : Nat} {a b c : Int} {tv : Value} {V : Nat → Value} {M : Me} (h : OpenX w B mb a b c tv g V M) (hb : Below w.heap.size w w') : OpenX w' B mb a b c tv g V M :=
  ⟨h.m0, b_block hb h.m (lt_of_block h.m), h.t.below hb, h.l.below hb, h.h.below hb⟩
theorem OpenX.tms {w : World} {B mb g : Nat} {a b c : Int} {tv : Value} {V : Nat → Value} {M : Me} (h : OpenX w B mb a b c tv g V M) {k : Nat} (hk : k < M.tn) : ∃ tg tc, tv = .slice (some ⟨tg, 0, none⟩) M.tn tc := by
  rcases h.t with ⟨h0, _⟩ | ⟨g, cap, e, h1⟩
  · omega
  · exact ⟨g, cap, e⟩
theorem OpenX.setT {w : World} {B mb tg n tc g : Nat} {a b c : Int} {V : Nat → Value} {M : Me} (h : OpenX w B mb a b c (.slice (some ⟨tg, 0, none⟩) n tc) g V M) {k j : Nat} (hk : k < M.tn) (hj : j < 8) (x : Int) :
    OpenX (w.setCell ⟨tg, k * 8 + j, none⟩ (.int .i64 x)) B mb a b c (.slice (some ⟨tg, 0, none⟩) n tc) g V (setTm M k j x) := by
  have hn := h.t.len
  subst hn
  have ht := h.t.at
  obtain ⟨cur, hcur⟩ := ht.hh
  obtain ⟨cs, hcs⟩ := h.l.hh
  exact ⟨h.m0, (heap_set1 w tg _ _ mb (ne_ty h.m hcur (by decide))).trans h.m, (ht.set1 hk hj x).own, h.l.block (heap_set1 w tg _ _ g (ne_ty hcs hcur (by decide))), h.h.other (fun i hi y hy => heap_set1 w tg _ _ y (own_ne (h.h.1 i hi) hcur (by decide) y hy))⟩
theorem OpenX.setP {w : World} {B mb g : Nat} {a b c : Int} {tv : Value} {V : Nat → Value} {M : Me} (h : OpenX w B mb a b c tv g V M) {k j : Nat} (hk : k < M.pn) (hj : j = 2 ∨ j = 3) (x : Int) :
    OpenX (w.setCell ⟨g, k * 4 + j, none⟩ (.int .i64 x)) B mb a b c tv g V (setPc M k j x) := by
  obtain ⟨cs, hcs⟩ := h.l.hh
  refine ⟨h.m0, (heap_set1 w g _ _ mb (ne_ty h.m hcs (by decide))).trans h.m, h.t.other hcs (by decide) (heap_set1 w g _ _), h.l.set1 hk hj x, ?_⟩
  have hh := h.h.other (w' := w.setCell ⟨g, k * 4 + j, none⟩ (.int .i64 x)) (fun i hi y hy => heap_set1 w g _ _ y (own_ne (h.h.1 i hi) hcs (by decide) y hy))
  refine ⟨fun i hi => ?_, hh.2⟩
  have hi2 := hh.1 i hi
  show OwnRow _ B (V i) (putP M.p k (pcSet (M.p k) j x) i).n (putP M.p k (pcSet (M.p k) j x) i).f
  by_cases e : i = k
  · subst e
    rw [putP_same]
    rcases hj with rfl | rfl <;> exact hi2
  · rw [putP_other M.p _ e]; exact hi2
/-- a list of slots that is newer than all the others -/
theorem OpenX.setNew {w w' : World} {B mb g : Nat} {a b c : Int} {tv : Value} {V : Nat → Value} {M : Me} (h : OpenX w B mb a b c tv g V M) (hB : B ≤ w.heap.size) (hb : Below w.heap.size w w') {k n : Nat} {f : Slots} {u : Value} (hk : k < M.pn) (ho : OwnRow w' w.heap.size u n f) :
    OpenX (w'.setCell ⟨g, k * 4 + 1, none⟩ u) B mb a b c tv g (putV V k u) (setHp M k n f) := by
  have hap : ∀ i, i < M.pn → i ≠ k → ∀ x, (V i).ownBlock = some x → u.ownBlock ≠ some x := fun i hi _ x hx h2 => by
    have h3 := (h.h.1 i hi).lt_size x hx
    rcases ho with ⟨_, rfl⟩ | ⟨y, cap, rfl, hy⟩
    · simp [Value.ownBlock] at h2
    · simp [Value.ownBlock] at h2
      subst h2
      have := hy.1
      omega
  have h := h.below hb
  obtain ⟨cs, hcs⟩ := h.l.hh
  refine ⟨h.m0, (heap_set1 w' g _ _ mb (ne_ty h.m hcs (by decide))).trans h.m, h.t.other hcs (by decide) (heap_set1 w' g _ _), h.l.set0 hk u n f, ?_⟩
  have hh := h.h.other (w' := w'.setCell ⟨g, k * 4 + 1, none⟩ u) (fun i hi y hy => heap_set1 w' g _ _ y (own_ne (h.h.1 i hi) hcs (by decide) y hy))
  have hu : OwnRow (w'.setCell ⟨g, k * 4 + 1, none⟩ u) B u n f := by
    rcases ho with ho | ⟨x, cap, ev, hx⟩
    · exact .inl ho
    · refine (OwnRow.mono (.inr ⟨x, cap, ev, hx.block (heap_set1 w' g _ _ x ?_)⟩) hB)
      obtain ⟨_, _, _, cur', hh', _⟩ := hx
      exact ne_ty hh' hcs (by decide)
  refine ⟨fun i hi => ?_, fun i j hi hj hij x hx => ?_⟩
  · show OwnRow _ B (putV V k u i) (putP M.p k { M.p k with n := n, f := f } i).n (putP M.p k { M.p k with n := n, f := f } i).f
    by_cases e : i = k
    · subst e; rw [putP_same, putV_same]; exact hu
    · rw [putP_other M.p _ e, putV_other V u e]; exact hh.1 i hi
  · by_cases e : i = k
    · subst e
      rw [putV_same] at hx
      rw [putV_other V u (Ne.symm hij)]
      intro h2
      exact hap j hj (Ne.symm hij) x h2 hx
    · rw [putV_other V u e] at hx
      by_cases e2 : j = k
      · subst e2; rw [putV_same]; exact hap i hi e x hx
      · rw [putV_other V u e2]; exact h.h.2 i j hi hj hij x hx

/-! ### what a call leaves as it was that works in such a memory -/
abbrev listsX : List TypeId := [90, 125, 133]
structure Wx (B : Nat) (w w' : World) : Prop where
  below : Below B w w'
  keeps : KeepsBut listsX w w'
  others : KeepsOthers w w'
theorem others_below {w w' : World} (h : Below w.heap.size w w') : KeepsOthers w w' := ⟨h.size, fun b o ho _ => (h.block b (by have := (Array.getElem?_eq_some_iff.1 ho).1; exact this)).trans ho⟩
theorem Wx.refl (B : Nat) (w : World) : Wx B w w := ⟨Below.refl B w, KeepsBut.refl _ w, KeepsOthers.refl w⟩
theorem Wx.trans {B : Nat} {a b c : World} (h : Wx B a b) (k : Wx B b c) : Wx B a c := ⟨h.below.trans k.below, h.keeps.trans k.keeps, h.others.trans k.others⟩
theorem Wx.of_new {B : Nat} {b c : World} (k : Below b.heap.size b c) (hB : B ≤ b.heap.size) : Wx B b c := ⟨k.mono hB, KeepsBut.of_below k, others_below k⟩
theorem Wx.new {B : Nat} {a b c : World} (h : Wx B a b) (k : Below b.heap.size b c) (hB : B ≤ a.heap.size) : Wx B a c := h.trans (.of_new k (Nat.le_trans hB h.below.size))
theorem Wx.set {B : Nat} {a w : World} (h : Wx B a w) {g : Nat} {cs : Array Value} {t : TypeId} (hg : w.heap[g]? = some (.cells cs t (0, 0))) (hB : B ≤ g) (ht : t ∈ listsX) (o : Nat) (u : Value) : Wx B a (w.setCell ⟨g, o, none⟩ u) :=
  ⟨h.below.setCell (p := ⟨g, o, none⟩) hB u, h.keeps.set hg ht o u, h.others.trans (KeepsOthers.setCell _ _ _)⟩
theorem Wx.setT {B tg n tc mb g : Nat} {x y z : Int} {V : Nat → Value} {M : Me} {a w : World} (h : Wx B a w) (ho : OpenX w B mb x y z (.slice (some ⟨tg, 0, none⟩) n tc) g V M) (o : Nat) (u : Value) : Wx B a (w.setCell ⟨tg, o, none⟩ u) := by
  have hn := ho.t.len
  subst hn
  obtain ⟨cs, hcs⟩ := ho.t.at.hh
  exact h.set hcs ho.t.at.1 (by decide) o u
theorem Wx.setP {B mb g : Nat} {x y z : Int} {tv : Value} {V : Nat → Value} {M : Me} {a w : World} (h : Wx B a w) (ho : OpenX w B mb x y z tv g V M) (o : Nat) (u : Value) : Wx B a (w.setCell ⟨g, o, none⟩ u) := by
  obtain ⟨cs, hcs⟩ := ho.l.hh
  exact h.set hcs ho.l.1 (by decide) o u
theorem Wx.kept {B b : Nat} {w w' : World} (h : Wx B w w') {cs : Array Value} {t : TypeId} (hb : w.heap[b]? = some (.cells cs t (0, 0))) (ht : t ∉ listsX) : w'.heap[b]? = some (.cells cs t (0, 0)) := (h.keeps b cs t hb ht).trans hb
/-- what is read and written of a timer, of a processor -/
theorem OpenX.tcells {w : World} {B mb tg n tc g : Nat} {a b c : Int} {V : Nat → Value} {M : Me} (h : OpenX w B mb a b c (.slice (some ⟨tg, 0, none⟩) n tc) g V M) {t : Nat} (ht : t < M.tn) :
    (w.cell? ⟨tg, t * 8, none⟩ = some (.int .i64 (M.t t).st) ∧ w.cell? ⟨tg, t * 8 + 1, none⟩ = some (.int .i64 (M.t t).wh) ∧ w.cell? ⟨tg, t * 8 + 2, none⟩ = some (.int .i64 (M.t t).nx) ∧ w.cell? ⟨tg, t * 8 + 3, none⟩ = some (.int .i64 (M.t t).pe) ∧ w.cell? ⟨tg, t * 8 + 4, none⟩ = some (.int .i64 (M.t t).pl) ∧ w.cell? ⟨tg, t * 8 + 5, none⟩ = some (.int .i64 (M.t t).ge) ∧ w.cell? ⟨tg, t * 8 + 6, none⟩ = some (.int .i64 (M.t t).ki) ∧ w.cell? ⟨tg, t * 8 + 7, none⟩ = some (.int .i64 (M.t t).ma)) ∧
    ∀ o, w.frozen? ⟨tg, o, none⟩ = false := by
  have hn := h.t.len
  subst hn
  have hc := h.t.at.cells ht
  exact ⟨⟨hc 0 (by decide), hc 1 (by decide), hc 2 (by decide), hc 3 (by decide), hc 4 (by decide), hc 5 (by decide), hc 6 (by decide), hc 7 (by decide)⟩, h.t.at.free⟩
theorem OpenX.pcells {w : World} {B mb g : Nat} {a b c : Int} {tv : Value} {V : Nat → Value} {M : Me} (h : OpenX w B mb a b c tv g V M) {k : Nat} (hk : k < M.pn) :
    (∃ ra rc, RowAt w (.slice ra (M.p k).n rc) (M.p k).n (M.p k).f ∧ w.cell? ⟨g, k * 4 + 1, none⟩ = some (.slice ra (M.p k).n rc)) ∧ w.cell? ⟨g, k * 4 + 2, none⟩ = some (.int .i64 (M.p k).e) ∧ w.cell? ⟨g, k * 4 + 3, none⟩ = some (.int .i64 (M.p k).d) ∧ ∀ o, w.frozen? ⟨g, o, none⟩ = false := by
  obtain ⟨p0, p1, p2, p3⟩ := h.l.cells hk
  have hrow := (h.h.1 k hk).row
  obtain ⟨ra, rc, e⟩ := hrow.form
  rw [e] at p1 hrow
  exact ⟨⟨ra, rc, hrow, p1⟩, p2, p3, h.l.free⟩
/-- what a call does that works in such a memory: the lists' blocks stay the same -/
def InX (B mb : Nat) (a b c : Int) (tv : Value) (g : Nat) (M : Me) (w w' : World) : Prop := ∃ V, OpenX w' B mb a b c tv g V M ∧ Wx B w w'

end Go.Proofs.YtflekodaiejflaaGreat

/-
  The exact laws on a memory whose answer is a memory, told what the program answers: Elapsed.
-/
namespace Go.Proofs.YtflekodaiejflaaGreat
open Go.RowKit Go.Joins
set_option linter.unusedVariables false
set_option linter.unusedSimpArgs false

/-- what the program's function of a plan, a memory and a number is to answer: a new memory -/
def AsksMM (fn : FuncId) (g : Int → Int → Int → Int → Me → Me) : Prop := ∀ (a b c d : Int) (tv pv : Value) (M : Me) (w : World), sizeM M ≤ 1048576 → MemAt w tv pv M → Calls Tryz.prog fn #[.agg #[.int .i64 a, .int .i64 b, .int .i64 c], meV M.c tv pv, .int .i64 d] w (NewMe (g a b c d M) w)
/-- a variable of the law's own that holds a memory -/
def VarAt (w : World) (b : Nat) (N : Me) (tv pv : Value) : Prop := w.heap[b]? = some (memO N.c tv pv 36) ∧ MemAt w tv pv N
theorem Mid.belowN {B C n : Nat} {w w' : World} (h : Mid B C w w') (hn : n ≤ B) (hw : n ≤ w.heap.size) : Below n w w' := ⟨h.os, h.tape, h.output, h.size, fun k hk => h.block k (by omega) (.inl (by omega))⟩
theorem OwnMem.setVar {w : World} {B b : Nat} {tv pv : Value} {N : Me} {cs : Array Value} (h : OwnMem w B tv pv N) (hz : w.heap[b]? = some (.cells cs 36 (0, 0))) (x y z : Value) :
    OwnMemIn (((w.setCell ⟨b, 0, none⟩ x).setCell ⟨b, 1, none⟩ y).setCell ⟨b, 2, none⟩ z) B w.heap.size tv pv N := by
  have s1 := (KeepsBut.refl [36] w).set hz (by decide) 0 x
  have s2 := s1.set (block_setCell (i := 0) hz x) (by decide) 1 y
  have s3 := s2.set (block_setCell (i := 1) (block_setCell (i := 0) hz x) y) (by decide) 2 z
  exact ⟨h.inn.1.keeps s3 (by decide), h.inn.2.keeps s3 (by decide) (by decide)⟩

end Go.Proofs.YtflekodaiejflaaGreat

/-
  Calls (spec, chapter 8): what can be asked.
-/
namespace Go.Proofs.YtflekodaiejflaaGreat
open Go.RowKit Go.Joins
set_option linter.unusedVariables false
set_option linter.unusedSimpArgs false

/-- a call's four numbers -/
structure Ca where
  code : Int
  a : Int
  b : Int
  c : Int
abbrev caCells (q : Ca) : Array Value := #[.int .i64 q.code, .int .i64 q.a, .int .i64 q.b, .int .i64 q.c]
abbrev caV (q : Ca) : Value := .agg #[.int .i64 q.code, .int .i64 q.a, .int .i64 q.b, .int .i64 q.c]
abbrev caL (q : Ca) : List Int := [q.code, q.a, q.b, q.c]
def ca0 : Ca := ⟨0, 0, 0, 0⟩

/-- what its code names -/
def namedB (a b c : Int) (q : Ca) : Bool :=
  if q.code = 1 then inB q.a 0 1 && (inB q.b 0 1000000000 && inB q.c 0 1000000000) else
  if q.code = 2 then inB q.a 0 (c - 1) && (q.b == 0 && q.c == 0) else
  if q.code = 3 then inB q.a 0 (c - 1) && (inB q.b 0 1000000000 && q.c == 0) else
  if q.code = 4 then procB a b c q.a && (q.b == 0 && q.c == 0) else
  if q.code = 5 then procB a b c q.a && (procB a b c q.b && (q.a != q.b && q.c == 0)) else
  if q.code = 6 then inB q.a 0 (c - 1) && (q.b == 0 && q.c == 0) else false
/-- is it a right call? -/
def callB (a b c : Int) (q : Ca) : Bool := planB a b c && namedB a b c q

set_option maxRecDepth 100000 in
set_option maxHeartbeats 4000000 in
theorem spCallOk_any (a b c : Int) (q : Ca) (w : World) :
    Calls Tryz.prog 90 #[.agg #[.int .i64 a, .int .i64 b, .int .i64 c], caV q] w fun e w' => e = .returned (.bool (callB a b c q)) ∧ Below w.heap.size w w' := by
  obtain ⟨k, x, y, z⟩ := q
  have k0 := ((Below.refl w.heap.size w).alloc (Nat.le_refl _) (.cells #[.int .i64 a, .int .i64 b, .int .i64 c] 46)).alloc (by simp) (.cells #[.int .i64 k, .int .i64 x, .int .i64 y, .int .i64 z] 37)
  have kk := Below.refl ((w.alloc (.cells #[.int .i64 a, .int .i64 b, .int .i64 c] 46)).alloc (.cells #[.int .i64 k, .int .i64 x, .int .i64 y, .int .i64 z] 37)).heap.size ((w.alloc (.cells #[.int .i64 a, .int .i64 b, .int .i64 c] 46)).alloc (.cells #[.int .i64 k, .int .i64 x, .int .i64 y, .int .i64 z] 37))
  cases h1 : planB a b c
  · skip
    rw [show callB a b c ⟨k, x, y, z⟩ = false by simp [callB, namedB, h1]]
    go_enter Tryz.func90, Tryz.ntmps90
    go_wp2_with (first
      | (go_at_call 86; refine (spPlanOk_any _ _ _ _).mono ?_; rintro e w1 ⟨rfl, hb⟩; replace kk := kk.trans (hb.mono kk.size); clear hb; (try clear hc hf); obtain ⟨hc, hf⟩ := bcell kk)
      | (go_at_call 111; refine (l1Proc_any _ _ _ _ _).mono ?_; rintro e w1 ⟨rfl, hb⟩; replace kk := kk.trans (hb.mono kk.size); clear hb; (try clear hc hf); obtain ⟨hc, hf⟩ := bcell kk)
      | (go_at_call 34; refine (l1In_any _ _ _ _).mono ?_; rintro e w' ⟨rfl, rfl⟩)
      | (go_at_call 92; refine (l1Time_any _ _).mono ?_; rintro e w' ⟨rfl, rfl⟩))
    go_ret
    exact ⟨ret_bool' (by simp), k0.trans (kk.mono k0.size)⟩
  obtain ⟨⟨b2, b3⟩, ⟨b5, b6⟩, b1, b4⟩ := planB_iff.1 h1
  by_cases c1 : k = 1
  case pos =>
    subst c1
    cases h2 : inB x 0 1
    · skip
      rw [show callB a b c ⟨1, x, y, z⟩ = false by simp [callB, namedB, h1, h2]]
      go_enter Tryz.func90, Tryz.ntmps90
      go_wp2_with (first
        | (go_at_call 86; refine (spPlanOk_any _ _ _ _).mono ?_; rintro e w1 ⟨rfl, hb⟩; replace kk := kk.trans (hb.mono kk.size); clear hb; (try clear hc hf); obtain ⟨hc, hf⟩ := bcell kk)
        | (go_at_call 111; refine (l1Proc_any _ _ _ _ _).mono ?_; rintro e w1 ⟨rfl, hb⟩; replace kk := kk.trans (hb.mono kk.size); clear hb; (try clear hc hf); obtain ⟨hc, hf⟩ := bcell kk)
        | (go_at_call 34; refine (l1In_any _ _ _ _).mono ?_; rintro e w' ⟨rfl, rfl⟩)
        | (go_at_call 92; refine (l1Time_any _ _).mono ?_; rintro e w' ⟨rfl, rfl⟩))
      go_ret
      exact ⟨ret_bool' (by simp), k0.trans (kk.mono k0.size)⟩
    cases h3 : inB y 0 1000000000
    · skip
      rw [show callB a b c ⟨1, x, y, z⟩ = false by simp [callB, namedB, h1, h2, h3]]
      go_enter Tryz.func90, Tryz.ntmps90
      go_wp2_with (first
        | (go_at_call 86; refine (spPlanOk_any _ _ _ _).mono ?_; rintro e w1 ⟨rfl, hb⟩; replace kk := kk.trans (hb.mono kk.size); clear hb; (try clear hc hf); obtain ⟨hc, hf⟩ := bcell kk)
        | (go_at_call 111; refine (l1Proc_any _ _ _ _ _).mono ?_; rintro e w1 ⟨rfl, hb⟩; replace kk := kk.trans (hb.mono kk.size); clear hb; (try clear hc hf); obtain ⟨hc, hf⟩ := bcell kk)
        | (go_at_call 34; refine (l1In_any _ _ _ _).mono ?_; rintro e w' ⟨rfl, rfl⟩)
        | (go_at_call 92; refine (l1Time_any _ _).mono ?_; rintro e w' ⟨rfl, rfl⟩))
      go_ret
      exact ⟨ret_bool' (by simp), k0.trans (kk.mono k0.size)⟩
    cases h4 : inB z 0 1000000000
    · skip
      rw [show callB a b c ⟨1, x, y, z⟩ = false by simp [callB, namedB, h1, h2, h3, h4]]
      go_enter Tryz.func90, Tryz.ntmps90
      go_wp2_with (first
        | (go_at_call 86; refine (spPlanOk_any _ _ _ _).mono ?_; rintro e w1 ⟨rfl, hb⟩; replace kk := kk.trans (hb.mono kk.size); clear hb; (try clear hc hf); obtain ⟨hc, hf⟩ := bcell kk)
        | (go_at_call 111; refine (l1Proc_any _ _ _ _ _).mono ?_; rintro e w1 ⟨rfl, hb⟩; replace kk := kk.trans (hb.mono kk.size); clear hb; (try clear hc hf); obtain ⟨hc, hf⟩ := bcell kk)
        | (go_at_call 34; refine (l1In_any _ _ _ _).mono ?_; rintro e w' ⟨rfl, rfl⟩)
        | (go_at_call 92; refine (l1Time_any _ _).mono ?_; rintro e w' ⟨rfl, rfl⟩))
      go_ret
      exact ⟨ret_bool' (by simp), k0.trans (kk.mono k0.size)⟩
    rw [show callB a b c ⟨1, x, y, z⟩ = true by simp [callB, namedB, h1, h2, h3, h4]]
    go_enter Tryz.func90, Tryz.ntmps90
    go_wp2_with (first
      | (go_at_call 86; refine (spPlanOk_any _ _ _ _).mono ?_; rintro e w1 ⟨rfl, hb⟩; replace kk := kk.trans (hb.mono kk.size); clear hb; (try clear hc hf); obtain ⟨hc, hf⟩ := bcell kk)
      | (go_at_call 111; refine (l1Proc_any _ _ _ _ _).mono ?_; rintro e w1 ⟨rfl, hb⟩; replace kk := kk.trans (hb.mono kk.size); clear hb; (try clear hc hf); obtain ⟨hc, hf⟩ := bcell kk)
      | (go_at_call 34; refine (l1In_any _ _ _ _).mono ?_; rintro e w' ⟨rfl, rfl⟩)
      | (go_at_call 92; refine (l1Time_any _ _).mono ?_; rintro e w' ⟨rfl, rfl⟩))
    go_ret
    exact ⟨ret_bool' (by simp), k0.trans (kk.mono k0.size)⟩
  by_cases c2 : k = 2
  case pos =>
    subst c2
    cases h2 : inB x 0 (c - 1)
    · skip
      rw [show callB a b c ⟨2, x, y, z⟩ = false by simp [callB, namedB, h1, h2]]
      go_enter Tryz.func90, Tryz.ntmps90
      go_wp2_with (first
        | (go_at_call 86; refine (spPlanOk_any _ _ _ _).mono ?_; rintro e w1 ⟨rfl, hb⟩; replace kk := kk.trans (hb.mono kk.size); clear hb; (try clear hc hf); obtain ⟨hc, hf⟩ := bcell kk)
        | (go_at_call 111; refine (l1Proc_any _ _ _ _ _).mono ?_; rintro e w1 ⟨rfl, hb⟩; replace kk := kk.trans (hb.mono kk.size); clear hb; (try clear hc hf); obtain ⟨hc, hf⟩ := bcell kk)
        | (go_at_call 34; refine (l1In_any _ _ _ _).mono ?_; rintro e w' ⟨rfl, rfl⟩)
        | (go_at_call 92; refine (l1Time_any _ _).mono ?_; rintro e w' ⟨rfl, rfl⟩))
      go_ret
      exact ⟨ret_bool' (by simp), k0.trans (kk.mono k0.size)⟩
    by_cases h3 : y = 0
    case neg =>
      have h3b : (y == 0) = false := by simpa using h3
      rw [show callB a b c ⟨2, x, y, z⟩ = false by simp [callB, namedB, h1, h2, h3]]
      go_enter Tryz.func90, Tryz.ntmps90
      go_wp2_with (first
        | (go_at_call 86; refine (spPlanOk_any _ _ _ _).mono ?_; rintro e w1 ⟨rfl, hb⟩; replace kk := kk.trans (hb.mono kk.size); clear hb; (try clear hc hf); obtain ⟨hc, hf⟩ := bcell kk)
        | (go_at_call 111; refine (l1Proc_any _ _ _ _ _).mono ?_; rintro e w1 ⟨rfl, hb⟩; replace kk := kk.trans (hb.mono kk.size); clear hb; (try clear hc hf); obtain ⟨hc, hf⟩ := bcell kk)
        | (go_at_call 34; refine (l1In_any _ _ _ _).mono ?_; rintro e w' ⟨rfl, rfl⟩)
        | (go_at_call 92; refine (l1Time_any _ _).mono ?_; rintro e w' ⟨rfl, rfl⟩))
      go_ret
      exact ⟨ret_bool' (by simp), k0.trans (kk.mono k0.size)⟩
    subst h3
    by_cases h4 : z = 0
    case neg =>
      have h4b : (z == 0) = false := by simpa using h4
      rw [show callB a b c ⟨2, x, 0, z⟩ = false by simp [callB, namedB, h1, h2, h4]]
      go_enter Tryz.func90, Tryz.ntmps90
      go_wp2_with (first
        | (go_at_call 86; refine (spPlanOk_any _ _ _ _).mono ?_; rintro e w1 ⟨rfl, hb⟩; replace kk := kk.trans (hb.mono kk.size); clear hb; (try clear hc hf); obtain ⟨hc, hf⟩ := bcell kk)
        | (go_at_call 111; refine (l1Proc_any _ _ _ _ _).mono ?_; rintro e w1 ⟨rfl, hb⟩; replace kk := kk.trans (hb.mono kk.size); clear hb; (try clear hc hf); obtain ⟨hc, hf⟩ := bcell kk)
        | (go_at_call 34; refine (l1In_any _ _ _ _).mono ?_; rintro e w' ⟨rfl, rfl⟩)
        | (go_at_call 92; refine (l1Time_any _ _).mono ?_; rintro e w' ⟨rfl, rfl⟩))
      go_ret
      exact ⟨ret_bool' (by simp), k0.trans (kk.mono k0.size)⟩
    subst h4
    rw [show callB a b c ⟨2, x, 0, 0⟩ = true by simp [callB, namedB, h1, h2]]
    go_enter Tryz.func90, Tryz.ntmps90
    go_wp2_with (first
      | (go_at_call 86; refine (spPlanOk_any _ _ _ _).mono ?_; rintro e w1 ⟨rfl, hb⟩; replace kk := kk.trans (hb.mono kk.size); clear hb; (try clear hc hf); obtain ⟨hc, hf⟩ := bcell kk)
      | (go_at_call 111; refine (l1Proc_any _ _ _ _ _).mono ?_; rintro e w1 ⟨rfl, hb⟩; replace kk := kk.trans (hb.mono kk.size); clear hb; (try clear hc hf); obtain ⟨hc, hf⟩ := bcell kk)
      | (go_at_call 34; refine (l1In_any _ _ _ _).mono ?_; rintro e w' ⟨rfl, rfl⟩)
      | (go_at_call 92; refine (l1Time_any _ _).mono ?_; rintro e w' ⟨rfl, rfl⟩))
    go_ret
    exact ⟨ret_bool' (by simp), k0.trans (kk.mono k0.size)⟩
  by_cases c3 : k = 3
  case pos =>
    subst c3
    cases h2 : inB x 0 (c - 1)
    · skip
      rw [show callB a b c ⟨3, x, y, z⟩ = false by simp [callB, namedB, h1, h2]]
      go_enter Tryz.func90, Tryz.ntmps90
      go_wp2_with (first
        | (go_at_call 86; refine (spPlanOk_any _ _ _ _).mono ?_; rintro e w1 ⟨rfl, hb⟩; replace kk := kk.trans (hb.mono kk.size); clear hb; (try clear hc hf); obtain ⟨hc, hf⟩ := bcell kk)
        | (go_at_call 111; refine (l1Proc_any _ _ _ _ _).mono ?_; rintro e w1 ⟨rfl, hb⟩; replace kk := kk.trans (hb.mono kk.size); clear hb; (try clear hc hf); obtain ⟨hc, hf⟩ := bcell kk)
        | (go_at_call 34; refine (l1In_any _ _ _ _).mono ?_; rintro e w' ⟨rfl, rfl⟩)
        | (go_at_call 92; refine (l1Time_any _ _).mono ?_; rintro e w' ⟨rfl, rfl⟩))
      go_ret
      exact ⟨ret_bool' (by simp), k0.trans (kk.mono k0.size)⟩
    cases h3 : inB y 0 1000000000
    · skip
      rw [show callB a b c ⟨3, x, y, z⟩ = false by simp [callB, namedB, h1, h2, h3]]
      go_enter Tryz.func90, Tryz.ntmps90
      go_wp2_with (first
        | (go_at_call 86; refine (spPlanOk_any _ _ _ _).mono ?_; rintro e w1 ⟨rfl, hb⟩; replace kk := kk.trans (hb.mono kk.size); clear hb; (try clear hc hf); obtain ⟨hc, hf⟩ := bcell kk)
        | (go_at_call 111; refine (l1Proc_any _ _ _ _ _).mono ?_; rintro e w1 ⟨rfl, hb⟩; replace kk := kk.trans (hb.mono kk.size); clear hb; (try clear hc hf); obtain ⟨hc, hf⟩ := bcell kk)
        | (go_at_call 34; refine (l1In_any _ _ _ _).mono ?_; rintro e w' ⟨rfl, rfl⟩)
        | (go_at_call 92; refine (l1Time_any _ _).mono ?_; rintro e w' ⟨rfl, rfl⟩))
      go_ret
      exact ⟨ret_bool' (by simp), k0.trans (kk.mono k0.size)⟩
    by_cases h4 : z = 0
    case neg =>
      have h4b : (z == 0) = false := by simpa using h4
      rw [show callB a b c ⟨3, x, y, z⟩ = false by simp [callB, namedB, h1, h2, h3, h4]]
      go_enter Tryz.func90, Tryz.ntmps90
      go_wp2_with (first
        | (go_at_call 86; refine (spPlanOk_any _ _ _ _).mono ?_; rintro e w1 ⟨rfl, hb⟩; replace kk := kk.trans (hb.mono kk.size); clear hb; (try clear hc hf); obtain ⟨hc, hf⟩ := bcell kk)
        | (go_at_call 111; refine (l1Proc_any _ _ _ _ _).mono ?_; rintro e w1 ⟨rfl, hb⟩; replace kk := kk.trans (hb.mono kk.size); clear hb; (try clear hc hf); obtain ⟨hc, hf⟩ := bcell kk)
        | (go_at_call 34; refine (l1In_any _ _ _ _).mono ?_; rintro e w' ⟨rfl, rfl⟩)
        | (go_at_call 92; refine (l1Time_any _ _).mono ?_; rintro e w' ⟨rfl, rfl⟩))
      go_ret
      exact ⟨ret_bool' (by simp), k0.trans (kk.mono k0.size)⟩
    subst h4
    rw [show callB a b c ⟨3, x, y, 0⟩ = true by simp [callB, namedB, h1, h2, h3]]
    go_enter Tryz.func90, Tryz.ntmps90
    go_wp2_with (first
      | (go_at_call 86; refine (spPlanOk_any _ _ _ _).mono ?_; rintro e w1 ⟨rfl, hb⟩; replace kk := kk.trans (hb.mono kk.size); clear hb; (try clear hc hf); obtain ⟨hc, hf⟩ := bcell kk)
      | (go_at_call 111; refine (l1Proc_any _ _ _ _ _).mono ?_; rintro e w1 ⟨rfl, hb⟩; replace kk := kk.trans (hb.mono kk.size); clear hb; (try clear hc hf); obtain ⟨hc, hf⟩ := bcell kk)
      | (go_at_call 34; refine (l1In_any _ _ _ _).mono ?_; rintro e w' ⟨rfl, rfl⟩)
      | (go_at_call 92; refine (l1Time_any _ _).mono ?_; rintro e w' ⟨rfl, rfl⟩))
    go_ret
    exact ⟨ret_bool' (by simp), k0.trans (kk.mono k0.size)⟩
  by_cases c4 : k = 4
  case pos =>
    subst c4
    cases h2 : procB a b c x
    · skip
      rw [show callB a b c ⟨4, x, y, z⟩ = false by simp [callB, namedB, h1, h2]]
      go_enter Tryz.func90, Tryz.ntmps90
      go_wp2_with (first
        | (go_at_call 86; refine (spPlanOk_any _ _ _ _).mono ?_; rintro e w1 ⟨rfl, hb⟩; replace kk := kk.trans (hb.mono kk.size); clear hb; (try clear hc hf); obtain ⟨hc, hf⟩ := bcell kk)
        | (go_at_call 111; refine (l1Proc_any _ _ _ _ _).mono ?_; rintro e w1 ⟨rfl, hb⟩; replace kk := kk.trans (hb.mono kk.size); clear hb; (try clear hc hf); obtain ⟨hc, hf⟩ := bcell kk)
        | (go_at_call 34; refine (l1In_any _ _ _ _).mono ?_; rintro e w' ⟨rfl, rfl⟩)
        | (go_at_call 92; refine (l1Time_any _ _).mono ?_; rintro e w' ⟨rfl, rfl⟩))
      go_ret
      exact ⟨ret_bool' (by simp), k0.trans (kk.mono k0.size)⟩
    by_cases h3 : y = 0
    case neg =>
      have h3b : (y == 0) = false := by simpa using h3
      rw [show callB a b c ⟨4, x, y, z⟩ = false by simp [callB, namedB, h1, h2, h3]]
      go_enter Tryz.func90, Tryz.ntmps90
      go_wp2_with (first
        | (go_at_call 86; refine (spPlanOk_any _ _ _ _).mono ?_; rintro e w1 ⟨rfl, hb⟩; replace kk := kk.trans (hb.mono kk.size); clear hb; (try clear hc hf); obtain ⟨hc, hf⟩ := bcell kk)
        | (go_at_call 111; refine (l1Proc_any _ _ _ _ _).mono ?_; rintro e w1 ⟨rfl, hb⟩; replace kk := kk.trans (hb.mono kk.size); clear hb; (try clear hc hf); obtain ⟨hc, hf⟩ := bcell kk)
        | (go_at_call 34; refine (l1In_any _ _ _ _).mono ?_; rintro e w' ⟨rfl, rfl⟩)
        | (go_at_call 92; refine (l1Time_any _ _).mono ?_; rintro e w' ⟨rfl, rfl⟩))
      go_ret
      exact ⟨ret_bool' (by simp), k0.trans (kk.mono k0.size)⟩
    subst h3
    by_cases h4 : z = 0
    case neg =>
      have h4b : (z == 0) = false := by simpa using h4
      rw [show callB a b c ⟨4, x, 0, z⟩ = false by simp [callB, namedB, h1, h2, h4]]
      go_enter Tryz.func90, Tryz.ntmps90
      go_wp2_with (first
        | (go_at_call 86; refine (spPlanOk_any _ _ _ _).mono ?_; rintro e w1 ⟨rfl, hb⟩; replace kk := kk.trans (hb.mono kk.size); clear hb; (try clear hc hf); obtain ⟨hc, hf⟩ := bcell kk)
        | (go_at_call 111; refine (l1Proc_any _ _ _ _ _).mono ?_; rintro e w1 ⟨rfl, hb⟩; replace kk := kk.trans (hb.mono kk.size); clear hb; (try clear hc hf); obtain ⟨hc, hf⟩ := bcell kk)
        | (go_at_call 34; refine (l1In_any _ _ _ _).mono ?_; rintro e w' ⟨rfl, rfl⟩)
        | (go_at_call 92; refine (l1Time_any _ _).mono ?_; rintro e w' ⟨rfl, rfl⟩))
      go_ret
      exact ⟨ret_bool' (by simp), k0.trans (kk.mono k0.size)⟩
    subst h4
    rw [show callB a b c ⟨4, x, 0, 0⟩ = true by simp [callB, namedB, h1, h2]]
    go_enter Tryz.func90, Tryz.ntmps90
    go_wp2_with (first
      | (go_at_call 86; refine (spPlanOk_any _ _ _ _).mono ?_; rintro e w1 ⟨rfl, hb⟩; replace kk := kk.trans (hb.mono kk.size); clear hb; (try clear hc hf); obtain ⟨hc, hf⟩ := bcell kk)
      | (go_at_call 111; refine (l1Proc_any _ _ _ _ _).mono ?_; rintro e w1 ⟨rfl, hb⟩; replace kk := kk.trans (hb.mono kk.size); clear hb; (try clear hc hf); obtain ⟨hc, hf⟩ := bcell kk)
      | (go_at_call 34; refine (l1In_any _ _ _ _).mono ?_; rintro e w' ⟨rfl, rfl⟩)
      | (go_at_call 92; refine (l1Time_any _ _).mono ?_; rintro e w' ⟨rfl, rfl⟩))
    go_ret
    exact ⟨ret_bool' (by simp), k0.trans (kk.mono k0.size)⟩
  by_cases c5 : k = 5
  case pos =>
    subst c5
    cases h2 : procB a b c x
    · skip
      rw [show callB a b c ⟨5, x, y, z⟩ = false by simp [callB, namedB, h1, h2]]
      go_enter Tryz.func90, Tryz.ntmps90
      go_wp2_with (first
        | (go_at_call 86; refine (spPlanOk_any _ _ _ _).mono ?_; rintro e w1 ⟨rfl, hb⟩; replace kk := kk.trans (hb.mono kk.size); clear hb; (try clear hc hf); obtain ⟨hc, hf⟩ := bcell kk)
        | (go_at_call 111; refine (l1Proc_any _ _ _ _ _).mono ?_; rintro e w1 ⟨rfl, hb⟩; replace kk := kk.trans (hb.mono kk.size); clear hb; (try clear hc hf); obtain ⟨hc, hf⟩ := bcell kk)
        | (go_at_call 34; refine (l1In_any _ _ _ _).mono ?_; rintro e w' ⟨rfl, rfl⟩)
        | (go_at_call 92; refine (l1Time_any _ _).mono ?_; rintro e w' ⟨rfl, rfl⟩))
      go_ret
      exact ⟨ret_bool' (by simp), k0.trans (kk.mono k0.size)⟩
    cases h5 : procB a b c y
    · skip
      rw [show callB a b c ⟨5, x, y, z⟩ = false by simp [callB, namedB, h1, h2, h5]]
      go_enter Tryz.func90, Tryz.ntmps90
      go_wp2_with (first
        | (go_at_call 86; refine (spPlanOk_any _ _ _ _).mono ?_; rintro e w1 ⟨rfl, hb⟩; replace kk := kk.trans (hb.mono kk.size); clear hb; (try clear hc hf); obtain ⟨hc, hf⟩ := bcell kk)
        | (go_at_call 111; refine (l1Proc_any _ _ _ _ _).mono ?_; rintro e w1 ⟨rfl, hb⟩; replace kk := kk.trans (hb.mono kk.size); clear hb; (try clear hc hf); obtain ⟨hc, hf⟩ := bcell kk)
        | (go_at_call 34; refine (l1In_any _ _ _ _).mono ?_; rintro e w' ⟨rfl, rfl⟩)
        | (go_at_call 92; refine (l1Time_any _ _).mono ?_; rintro e w' ⟨rfl, rfl⟩))
      go_ret
      exact ⟨ret_bool' (by simp), k0.trans (kk.mono k0.size)⟩
    by_cases h3 : x = y
    case pos =>
      subst h3
      rw [show callB a b c ⟨5, x, x, z⟩ = false by simp [callB, namedB, h1, h2]]
      go_enter Tryz.func90, Tryz.ntmps90
      go_wp2_with (first
        | (go_at_call 86; refine (spPlanOk_any _ _ _ _).mono ?_; rintro e w1 ⟨rfl, hb⟩; replace kk := kk.trans (hb.mono kk.size); clear hb; (try clear hc hf); obtain ⟨hc, hf⟩ := bcell kk)
        | (go_at_call 111; refine (l1Proc_any _ _ _ _ _).mono ?_; rintro e w1 ⟨rfl, hb⟩; replace kk := kk.trans (hb.mono kk.size); clear hb; (try clear hc hf); obtain ⟨hc, hf⟩ := bcell kk)
        | (go_at_call 34; refine (l1In_any _ _ _ _).mono ?_; rintro e w' ⟨rfl, rfl⟩)
        | (go_at_call 92; refine (l1Time_any _ _).mono ?_; rintro e w' ⟨rfl, rfl⟩))
      go_ret
      exact ⟨ret_bool' (by simp), k0.trans (kk.mono k0.size)⟩
    have h3b : (x == y) = false := by simpa using h3
    have h3c : (x != y) = true := by simpa using h3
    by_cases h4 : z = 0
    case neg =>
      have h4b : (z == 0) = false := by simpa using h4
      rw [show callB a b c ⟨5, x, y, z⟩ = false by simp [callB, namedB, h1, h2, h5, h3, h4]]
      go_enter Tryz.func90, Tryz.ntmps90
      go_wp2_with (first
        | (go_at_call 86; refine (spPlanOk_any _ _ _ _).mono ?_; rintro e w1 ⟨rfl, hb⟩; replace kk := kk.trans (hb.mono kk.size); clear hb; (try clear hc hf); obtain ⟨hc, hf⟩ := bcell kk)
        | (go_at_call 111; refine (l1Proc_any _ _ _ _ _).mono ?_; rintro e w1 ⟨rfl, hb⟩; replace kk := kk.trans (hb.mono kk.size); clear hb; (try clear hc hf); obtain ⟨hc, hf⟩ := bcell kk)
        | (go_at_call 34; refine (l1In_any _ _ _ _).mono ?_; rintro e w' ⟨rfl, rfl⟩)
        | (go_at_call 92; refine (l1Time_any _ _).mono ?_; rintro e w' ⟨rfl, rfl⟩))
      go_ret
      exact ⟨ret_bool' (by simp), k0.trans (kk.mono k0.size)⟩
    subst h4
    rw [show callB a b c ⟨5, x, y, 0⟩ = true by simp [callB, namedB, h1, h2, h5, h3]]
    go_enter Tryz.func90, Tryz.ntmps90
    go_wp2_with (first
      | (go_at_call 86; refine (spPlanOk_any _ _ _ _).mono ?_; rintro e w1 ⟨rfl, hb⟩; replace kk := kk.trans (hb.mono kk.size); clear hb; (try clear hc hf); obtain ⟨hc, hf⟩ := bcell kk)
      | (go_at_call 111; refine (l1Proc_any _ _ _ _ _).mono ?_; rintro e w1 ⟨rfl, hb⟩; replace kk := kk.trans (hb.mono kk.size); clear hb; (try clear hc hf); obtain ⟨hc, hf⟩ := bcell kk)
      | (go_at_call 34; refine (l1In_any _ _ _ _).mono ?_; rintro e w' ⟨rfl, rfl⟩)
      | (go_at_call 92; refine (l1Time_any _ _).mono ?_; rintro e w' ⟨rfl, rfl⟩))
    go_ret
    exact ⟨ret_bool' (by simp), k0.trans (kk.mono k0.size)⟩
  by_cases c6 : k = 6
  case pos =>
    subst c6
    cases h2 : inB x 0 (c - 1)
    · skip
      rw [show callB a b c ⟨6, x, y, z⟩ = false by simp [callB, namedB, h1, h2]]
      go_enter Tryz.func90, Tryz.ntmps90
      go_wp2_with (first
        | (go_at_call 86; refine (spPlanOk_any _ _ _ _).mono ?_; rintro e w1 ⟨rfl, hb⟩; replace kk := kk.trans (hb.mono kk.size); clear hb; (try clear hc hf); obtain ⟨hc, hf⟩ := bcell kk)
        | (go_at_call 111; refine (l1Proc_any _ _ _ _ _).mono ?_; rintro e w1 ⟨rfl, hb⟩; replace kk := kk.trans (hb.mono kk.size); clear hb; (try clear hc hf); obtain ⟨hc, hf⟩ := bcell kk)
        | (go_at_call 34; refine (l1In_any _ _ _ _).mono ?_; rintro e w' ⟨rfl, rfl⟩)
        | (go_at_call 92; refine (l1Time_any _ _).mono ?_; rintro e w' ⟨rfl, rfl⟩))
      go_ret
      exact ⟨ret_bool' (by simp), k0.trans (kk.mono k0.size)⟩
    by_cases h3 : y = 0
    case neg =>
      have h3b : (y == 0) = false := by simpa using h3
      rw [show callB a b c ⟨6, x, y, z⟩ = false by simp [callB, namedB, h1, h2, h3]]
      go_enter Tryz.func90, Tryz.ntmps90
      go_wp2_with (first
        | (go_at_call 86; refine (spPlanOk_any _ _ _ _).mono ?_; rintro e w1 ⟨rfl, hb⟩; replace kk := kk.trans (hb.mono kk.size); clear hb; (try clear hc hf); obtain ⟨hc, hf⟩ := bcell kk)
        | (go_at_call 111; refine (l1Proc_any _ _ _ _ _).mono ?_; rintro e w1 ⟨rfl, hb⟩; replace kk := kk.trans (hb.mono kk.size); clear hb; (try clear hc hf); obtain ⟨hc, hf⟩ := bcell kk)
        | (go_at_call 34; refine (l1In_any _ _ _ _).mono ?_; rintro e w' ⟨rfl, rfl⟩)
        | (go_at_call 92; refine (l1Time_any _ _).mono ?_; rintro e w' ⟨rfl, rfl⟩))
      go_ret
      exact ⟨ret_bool' (by simp), k0.trans (kk.mono k0.size)⟩
    subst h3
    by_cases h4 : z = 0
    case neg =>
      have h4b : (z == 0) = false := by simpa using h4
      rw [show callB a b c ⟨6, x, 0, z⟩ = false by simp [callB, namedB, h1, h2, h4]]
      go_enter Tryz.func90, Tryz.ntmps90
      go_wp2_with (first
        | (go_at_call 86; refine (spPlanOk_any _ _ _ _).mono ?_; rintro e w1 ⟨rfl, hb⟩; replace kk := kk.trans (hb.mono kk.size); clear hb; (try clear hc hf); obtain ⟨hc, hf⟩ := bcell kk)
        | (go_at_call 111; refine (l1Proc_any _ _ _ _ _).mono ?_; rintro e w1 ⟨rfl, hb⟩; replace kk := kk.trans (hb.mono kk.size); clear hb; (try clear hc hf); obtain ⟨hc, hf⟩ := bcell kk)
        | (go_at_call 34; refine (l1In_any _ _ _ _).mono ?_; rintro e w' ⟨rfl, rfl⟩)
        | (go_at_call 92; refine (l1Time_any _ _).mono ?_; rintro e w' ⟨rfl, rfl⟩))
      go_ret
      exact ⟨ret_bool' (by simp), k0.trans (kk.mono k0.size)⟩
    subst h4
    rw [show callB a b c ⟨6, x, 0, 0⟩ = true by simp [callB, namedB, h1, h2]]
    go_enter Tryz.func90, Tryz.ntmps90
    go_wp2_with (first
      | (go_at_call 86; refine (spPlanOk_any _ _ _ _).mono ?_; rintro e w1 ⟨rfl, hb⟩; replace kk := kk.trans (hb.mono kk.size); clear hb; (try clear hc hf); obtain ⟨hc, hf⟩ := bcell kk)
      | (go_at_call 111; refine (l1Proc_any _ _ _ _ _).mono ?_; rintro e w1 ⟨rfl, hb⟩; replace kk := kk.trans (hb.mono kk.size); clear hb; (try clear hc hf); obtain ⟨hc, hf⟩ := bcell kk)
      | (go_at_call 34; refine (l1In_any _ _ _ _).mono ?_; rintro e w' ⟨rfl, rfl⟩)
      | (go_at_call 92; refine (l1Time_any _ _).mono ?_; rintro e w' ⟨rfl, rfl⟩))
    go_ret
    exact ⟨ret_bool' (by simp), k0.trans (kk.mono k0.size)⟩
  have c1b : (k == 1) = false := by simpa using c1
  have c2b : (k == 2) = false := by simpa using c2
  have c3b : (k == 3) = false := by simpa using c3
  have c4b : (k == 4) = false := by simpa using c4
  have c5b : (k == 5) = false := by simpa using c5
  have c6b : (k == 6) = false := by simpa using c6
  rw [show callB a b c ⟨k, x, y, z⟩ = false by simp [callB, namedB, h1, c1, c2, c3, c4, c5, c6]]
  go_enter Tryz.func90, Tryz.ntmps90
  go_wp2_with (first
    | (go_at_call 86; refine (spPlanOk_any _ _ _ _).mono ?_; rintro e w1 ⟨rfl, hb⟩; replace kk := kk.trans (hb.mono kk.size); clear hb; (try clear hc hf); obtain ⟨hc, hf⟩ := bcell kk)
    | (go_at_call 111; refine (l1Proc_any _ _ _ _ _).mono ?_; rintro e w1 ⟨rfl, hb⟩; replace kk := kk.trans (hb.mono kk.size); clear hb; (try clear hc hf); obtain ⟨hc, hf⟩ := bcell kk)
    | (go_at_call 34; refine (l1In_any _ _ _ _).mono ?_; rintro e w' ⟨rfl, rfl⟩)
    | (go_at_call 92; refine (l1Time_any _ _).mono ?_; rintro e w' ⟨rfl, rfl⟩))
  go_ret
  exact ⟨ret_bool' (by simp), k0.trans (kk.mono k0.size)⟩

end Go.Proofs.YtflekodaiejflaaGreat
