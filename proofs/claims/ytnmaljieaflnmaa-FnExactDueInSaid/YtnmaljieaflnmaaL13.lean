/-
  FnExactNewMem, told what the program answers.
-/
import Derived.Test.YtnmaljieaflnmaaL11
import Derived.Test.YtnmaljieaflnmaaL12
import Derived.Test.YtnmaljieaflnmaaL06
import Derived.Test.YtnmaljieaflnmaaL01
import Derived.Laws.CopyRow
import Derived.Laws.MakeOwn
import Derived.Laws.CopyOwn
import Derived.Test.YtnmaljieaflnmaaL03
import Derived.Test.YtnmaljieaflnmaaL00
import Derived.Test.YtnmaljieaflnmaaL05
namespace Go.Proofs.Ytnmaljieaflnmaa
open Go.RowKit Go.Joins Go.ChangeShapes Go.WideShapes Go.ChangeAt Go.Deep
set_option linter.unusedVariables false

/-- what the program's NewMem is to answer -/
def AsksNM (fn : FuncId) : Prop := ∀ (a b c : Int) (w : World), Calls Try.prog fn #[.agg #[.int .i64 a, .int .i64 b, .int .i64 c]] w (NewMe (newM a b c) w)
theorem sizeM_new (a b c : Int) : sizeM (newM a b c) ≤ 1048576 := by
  unfold newM
  split
  · rename_i h
    have := planB_iff.1 h
    have key : ∀ k, slotsP (fun _ => (⟨0, fun _ => (0, 0), -1, -1, 0⟩ : Pc)) k = 0 := by
      intro k
      induction k with
      | zero => rfl
      | succ k ih => rw [slotsP, ih]; rfl
    unfold sizeM
    simp only [key]
    omega
  · decide

set_option maxRecDepth 100000 in
set_option maxHeartbeats 8000000 in
theorem newMem_law (hI : AsksNM 27) (a b c : Int) {w : World} :
    Calls Try.prog 6 #[.agg #[.int .i64 a, .int .i64 b, .int .i64 c]] w fun x w' => x = .returned (.bool true) ∧ Below w.heap.size w w' := by
  have hg := sizeM_new a b c
  obtain ⟨N, hN⟩ : ∃ N, N = newM a b c := ⟨_, rfl⟩
  have HS := Lib.hid (show ∀ w, Calls Try.prog 26 #[.agg #[.int .i64 a, .int .i64 b, .int .i64 c]] w (NewMe N w) by rw [hN]; exact spNewMem_any a b c)
  have HI := Lib.hid (show ∀ w, Calls Try.prog 27 #[.agg #[.int .i64 a, .int .i64 b, .int .i64 c]] w (NewMe N w) by rw [hN]; exact hI a b c)
  rw [← hN] at hg
  clear hN
  have kw := (Below.refl w.heap.size w).alloc (Nat.le_refl _) (.cells #[.int .i64 a, .int .i64 b, .int .i64 c] 43)
  have HPl := heap_alloc_new w (.cells #[.int .i64 a, .int .i64 b, .int .i64 c] 43)
  have l0 : w.heap.size < (w.alloc (.cells #[.int .i64 a, .int .i64 b, .int .i64 c] 43)).heap.size := by simp
  go_enter Try.func6, Try.ntmps6
  obtain ⟨y0, y1, y2, _, _, _⟩ := three HPl
  go_wp2_with fail
  go_at_call 22; refine (toPlan_any _ _ _ _).mono ?_; rintro x wp ⟨rfl, hb⟩
  clear y0 y1 y2
  replace HPl := b_block hb HPl (lt_of_block HPl)
  have sz := hb.size
  replace kw := kw.trans (hb.mono kw.size)
  clear hb
  obtain ⟨y0, y1, y2, _, _, _⟩ := three HPl
  go_wp2_with fail
  go_at_call 26; refine (HS.out _).mono ?_; rintro x w8 ⟨v8, z8, rfl, hO8, hb⟩
  clear y0 y1 y2
  obtain ⟨t8, s8, p8, r8, hv8, hz8⟩ := hO8.at.form
  subst hv8 hz8
  have lb8 := hb.size
  replace HPl := b_block hb HPl (lt_of_block HPl)
  have sz := hb.size
  replace kw := kw.trans (hb.mono kw.size)
  clear hb
  have hb := (Below.refl w8.heap.size w8).alloc (Nat.le_refl _) (memO N.c (.slice t8 N.tn s8) (.slice p8 N.pn r8) 54)
  have hB8 := heap_alloc_new w8 (memO N.c (.slice t8 N.tn s8) (.slice p8 N.pn r8) 54)
  have lB8 : w8.heap.size < (w8.alloc (memO N.c (.slice t8 N.tn s8) (.slice p8 N.pn r8) 54)).heap.size := by simp
  have lC8 : w8.heap.size < (w8.alloc (.cells #[.int .i64 N.c, .slice t8 N.tn s8, .slice p8 N.pn r8] 54)).heap.size := by simp
  have hR8 := hO8.at.range.keep (Same.of_below hb (Nat.le_refl _))
  replace HPl := b_block hb HPl (lt_of_block HPl)
  have sz := hb.size
  replace kw := kw.trans (hb.mono kw.size)
  clear hb
  obtain ⟨y0, y1, y2, _, _, _⟩ := three HPl
  go_wp2_with fail
  go_at_call 22; refine (toPlan_any _ _ _ _).mono ?_; rintro x wp ⟨rfl, hb⟩
  clear y0 y1 y2
  replace HPl := b_block hb HPl (lt_of_block HPl)
  replace hB8 := b_block hb hB8 (lt_of_block hB8)
  replace hR8 := hR8.keep (Same.of_below hb (by omega))
  have sz := hb.size
  replace kw := kw.trans (hb.mono kw.size)
  clear hb
  obtain ⟨y0, y1, y2, _, _, _⟩ := three HPl
  go_wp2_with fail
  go_at_call 27; refine (HI.out _).mono ?_; rintro x w10 ⟨v10, z10, rfl, hO10, hb⟩
  clear y0 y1 y2
  obtain ⟨t10, s10, p10, r10, hv10, hz10⟩ := hO10.at.form
  subst hv10 hz10
  have lb10 := hb.size
  replace HPl := b_block hb HPl (lt_of_block HPl)
  replace hB8 := b_block hb hB8 (lt_of_block hB8)
  replace hR8 := hR8.keep (Same.of_below hb (by omega))
  have sz := hb.size
  replace kw := kw.trans (hb.mono kw.size)
  clear hb
  have hb := (Below.refl w10.heap.size w10).alloc (Nat.le_refl _) (memO N.c (.slice t10 N.tn s10) (.slice p10 N.pn r10) 54)
  have hB10 := heap_alloc_new w10 (memO N.c (.slice t10 N.tn s10) (.slice p10 N.pn r10) 54)
  have lB10 : w10.heap.size < (w10.alloc (memO N.c (.slice t10 N.tn s10) (.slice p10 N.pn r10) 54)).heap.size := by simp
  have lC10 : w10.heap.size < (w10.alloc (.cells #[.int .i64 N.c, .slice t10 N.tn s10, .slice p10 N.pn r10] 54)).heap.size := by simp
  have hOI := hO10.inn.keep (Same.of_below hb (Nat.le_refl _))
  replace HPl := b_block hb HPl (lt_of_block HPl)
  replace hB8 := b_block hb hB8 (lt_of_block hB8)
  replace hR8 := hR8.keep (Same.of_below hb (by omega))
  have sz := hb.size
  replace kw := kw.trans (hb.mono kw.size)
  clear hb
  obtain ⟨B, hBd⟩ : ∃ B, B = wp.heap.size := ⟨_, rfl⟩
  rw [← hBd] at hOI
  have h8B : w8.heap.size < B := by simp at *; omega
  obtain ⟨x0, x1, x2, _, _, _⟩ := three hB10
  obtain ⟨y0, y1, y2, _, _, _⟩ := three hB8
  go_wp2_with fail
  go_at_call 25; refine (eqMem_same hg (hOI.range.at (by omega)) (hR8.at (by omega))).mono ?_; rintro x wb ⟨rfl, hb⟩
  clear x0 x1 x2 y0 y1 y2
  replace HPl := b_block hb HPl (lt_of_block HPl)
  replace hB8 := b_block hb hB8 (lt_of_block hB8)
  replace hB10 := b_block hb hB10 (lt_of_block hB10)
  replace hR8 := hR8.keep (Same.of_below hb (by omega))
  replace hOI := hOI.keep (Same.of_below hb (by omega))
  have sz := hb.size
  replace kw := kw.trans (hb.mono kw.size)
  clear hb
  obtain ⟨x0, x1, x2, _, _, _⟩ := three hB10
  go_wp2_with fail
  go_at_call 28; refine (markMem_any 1 (by decide) (by decide) hg hOI (by omega)).mono ?_; rintro x wf ⟨rfl, hOF, hmd⟩
  clear x0 x1 x2
  replace HPl := (hmd.block _ (lt_of_block HPl) (.inl (by omega))).trans HPl
  replace hB8 := (hmd.block _ (lt_of_block hB8) (.inl (by omega))).trans hB8
  replace hB10 := (hmd.block _ (lt_of_block hB10) (.inr (by omega))).trans hB10
  replace hR8 := hR8.keep (Same.of_mid_lo hmd (by omega) (by omega))
  have sz := hmd.size
  replace kw := kw.trans (hmd.belowN (n := w.heap.size) (by omega) (by omega))
  clear hmd hOI
  have mg0 : decide (markEnd N 1 < 0) = false := by have := @markEnd_ge N 1; simp; omega
  obtain ⟨x0, x1, x2, _, _, _⟩ := three hB10
  go_wp2_with fail
  go_at_call 29; refine (heldMem_any 1 (by decide) (by decide) hg (hOF.range.at (by omega))).mono ?_; rintro x wg ⟨rfl, hb⟩
  clear x0 x1 x2
  replace HPl := b_block hb HPl (lt_of_block HPl)
  replace hB8 := b_block hb hB8 (lt_of_block hB8)
  replace hB10 := b_block hb hB10 (lt_of_block hB10)
  replace hR8 := hR8.keep (Same.of_below hb (by omega))
  replace hOF := hOF.keep (Same.of_below hb (by omega))
  have sz := hb.size
  replace kw := kw.trans (hb.mono kw.size)
  clear hb
  obtain ⟨y0, y1, y2, _, _, _⟩ := three HPl
  go_wp2_with fail
  go_at_call 22; refine (toPlan_any _ _ _ _).mono ?_; rintro x wp ⟨rfl, hb⟩
  clear y0 y1 y2
  replace HPl := b_block hb HPl (lt_of_block HPl)
  replace hB8 := b_block hb hB8 (lt_of_block hB8)
  replace hB10 := b_block hb hB10 (lt_of_block hB10)
  replace hR8 := hR8.keep (Same.of_below hb (by omega))
  replace hOF := hOF.keep (Same.of_below hb (by omega))
  have sz := hb.size
  replace kw := kw.trans (hb.mono kw.size)
  clear hb
  obtain ⟨y0, y1, y2, _, _, _⟩ := three HPl
  go_wp2_with fail
  go_at_call 27; refine (HI.out _).mono ?_; rintro x w14 ⟨v14, z14, rfl, hO14, hb⟩
  clear y0 y1 y2
  obtain ⟨t14, s14, p14, r14, hv14, hz14⟩ := hO14.at.form
  subst hv14 hz14
  have lb14 := hb.size
  replace HPl := b_block hb HPl (lt_of_block HPl)
  replace hB8 := b_block hb hB8 (lt_of_block hB8)
  replace hB10 := b_block hb hB10 (lt_of_block hB10)
  replace hR8 := hR8.keep (Same.of_below hb (by omega))
  replace hOF := hOF.keep (Same.of_below hb (by omega))
  have sz := hb.size
  replace kw := kw.trans (hb.mono kw.size)
  clear hb
  have hb := (Below.refl w14.heap.size w14).alloc (Nat.le_refl _) (memO N.c (.slice t14 N.tn s14) (.slice p14 N.pn r14) 54)
  have hB14 := heap_alloc_new w14 (memO N.c (.slice t14 N.tn s14) (.slice p14 N.pn r14) 54)
  have lB14 : w14.heap.size < (w14.alloc (memO N.c (.slice t14 N.tn s14) (.slice p14 N.pn r14) 54)).heap.size := by simp
  have lC14 : w14.heap.size < (w14.alloc (.cells #[.int .i64 N.c, .slice t14 N.tn s14, .slice p14 N.pn r14] 54)).heap.size := by simp
  have hR14 := hO14.at.range.keep (Same.of_below hb (Nat.le_refl _))
  replace HPl := b_block hb HPl (lt_of_block HPl)
  replace hB8 := b_block hb hB8 (lt_of_block hB8)
  replace hB10 := b_block hb hB10 (lt_of_block hB10)
  replace hR8 := hR8.keep (Same.of_below hb (by omega))
  replace hOF := hOF.keep (Same.of_below hb (by omega))
  have sz := hb.size
  replace kw := kw.trans (hb.mono kw.size)
  clear hb
  obtain ⟨x0, x1, x2, _, _, _⟩ := three hB14
  obtain ⟨y0, y1, y2, _, _, _⟩ := three hB8
  go_wp2_with fail
  go_at_call 25; refine (eqMem_same hg (hR14.at (by omega)) (hR8.at (by omega))).mono ?_; rintro x wb ⟨rfl, hb⟩
  clear x0 x1 x2 y0 y1 y2
  replace HPl := b_block hb HPl (lt_of_block HPl)
  replace hB8 := b_block hb hB8 (lt_of_block hB8)
  replace hB10 := b_block hb hB10 (lt_of_block hB10)
  replace hB14 := b_block hb hB14 (lt_of_block hB14)
  replace hR8 := hR8.keep (Same.of_below hb (by omega))
  replace hOF := hOF.keep (Same.of_below hb (by omega))
  replace hR14 := hR14.keep (Same.of_below hb (by omega))
  have sz := hb.size
  replace kw := kw.trans (hb.mono kw.size)
  clear hb
  obtain ⟨x0, x1, x2, _, _, _⟩ := three hB10
  go_wp2_with fail
  go_at_call 29; refine (heldMem_any 1 (by decide) (by decide) hg (hOF.range.at (by omega))).mono ?_; rintro x wj ⟨rfl, hb⟩
  clear x0 x1 x2
  have kj := kw.trans (hb.mono kw.size)
  clear hb
  go_wp2
  go_ret
  exact ⟨rfl, kj⟩

set_option maxRecDepth 100000 in
theorem exactNewMem_lifted (hI : AsksNM 27) (os : Os) (started : os.Started) (H : Type) (enc : TypeId × Value → H) :
    ReturnsInHanded {} Try.checked os 6 .any (Rows.fnExactNewMemSpec.pre6 enc Try.prog Try.f6 Rows.fnExactNewMemRow.domain false) (Rows.fnExactNewMemSpec.post enc Try.prog Try.f6 false true false false) := by
  refine returnsInHanded_of_change (C := Try.checked) own started (by kernel_rfl) Try.func6
    (ChangeSpec.witness6 (enc := enc) (C := Try.checked) false ⟨#[], #[.agg #[.int .i64 0, .int .i64 0, .int .i64 0]], []⟩ 8 (by kernel_rfl) (by kernel_rfl) (by kernel_rfl) (by kernel_rfl)) ?_
  intro W base args ds gs before hval0 hW _ _
  have hval : ∀ (j : Nat) t v, Try.f6.params[j]? = some t → args[j]? = some v → Value.okWide Try.prog W .any base t v := hval0
  have hW' := hW
  obtain ⟨p, q, hA0, hV, rfl, _, _⟩ := hW
  have hA : DataW.TrodAll enc Try.prog W 0 (fun _ => true) true Try.f6.params.toList args.toList ds p := hA0
  rw [Try.params6] at hA hval
  obtain ⟨v0, d0, rfl, rfl, h0⟩ := trodAll_one hA
  obtain ⟨rfl, rfl⟩ := trodVars_none hV
  have lt0 : ∀ x ∈ p, x.block < W.heap.size := by obtain ⟨m, hm⟩ := h0; exact DataW.trod_lt m _ _ _ hm
  obtain ⟨a, b, c, rfl⟩ := plan_inM (hval 0 43 v0 rfl rfl) h0
  clear hA0 hval0
  refine (newMem_law hI a b c).mono fun x W' ⟨he, hb⟩ => ?_
  subst he
  exact ⟨_, rfl, _, _, _, [], _, [], hW', trodAll_mk1 (shut_bool Try.underlying4 _), trodAll_mk1 (Below.trod laidOut (by kernel_rfl) (of_decide_eq_true (by kernel_rfl)) h0 hb lt0), rfl, hb.frame _, fun h => by cases h⟩

theorem exactNewMem_holds (hI : AsksNM 27) : Rows.FnExactNewMemSaid :=
  OpenClaim.holds_of_wide 6 Try.f6 rfl rfl rfl rfl rfl rfl rfl ⟨rfl, rfl, rfl, rfl, rfl⟩ rfl rfl rfl rfl rfl (by kernel_rfl) Try.func6 (by kernel_rfl)
    (of_decide_eq_true (by kernel_rfl)) (by unfold Func.isWrapper; rw [if_neg (of_decide_eq_false (by kernel_rfl))]; exact ⟨rfl, rfl⟩)
    (fun os started H enc _ => exactNewMem_lifted hI os started H enc)
end Go.Proofs.Ytnmaljieaflnmaa

/-
  Append onto a list of timers of the call's own.
-/
namespace Go.Proofs.Ytnmaljieaflnmaa
open Go.RowKit Go.Joins
set_option linter.unusedVariables false

/-! ### append onto a list of the call's own, from a list that is read -/
theorem timer_info2 : (Try.prog.info? 96).map (fun i => (i.zero, i.size, i.bytes)) = some (some (.agg #[.int .i64 0, .int .i64 0, .int .i64 0, .int .i64 0, .int .i64 0, .int .i64 0, .int .i64 0, .int .i64 0]), 8, 64) := by kernel_rfl

theorem run_append_tms (w : World) (B : Nat) (ty : TypeId) (v : Value) (n : Nat) (f : Tms) (hown : w.ownsRow B 96 8 v n (cellsT f n)) (x : Value) (m : Nat) (h : Tms) (hx : RowTAt w x m h) (hn : n + m ≤ 2097152) (hB : B ≤ w.heap.size) :
    ∃ v' w', (Builtin.append_ #[51, 51] ty #[v, x]).run Try.prog w = .ok v' w' ∧ w'.ownsRow B 96 8 v' (n + m) (cellsT f n ++ cellsT h m) ∧ w.grownBy w' v.ownBlock ∧ (v'.ownBlock = v.ownBlock ∨ v'.ownBlock = some w.heap.size) := by
  obtain ⟨i0, hi, hz, hs, hby⟩ := info_parts timer_info2
  have hbytes : (n + m) * 64 ≤ 140737488355328 := by omega
  have h63 : n + m ≤ maxLen := by unfold maxLen; omega
  rcases hx with ⟨rfl, a, cap, rfl⟩ | ⟨b, off, cap, rfl, hl, hc⟩
  · rcases a with _ | ad
    · refine ⟨v, w, ?_, by simpa [cellsT] using hown, g_refl w _, .inl rfl⟩
      rcases hown.2 with ⟨rfl, rfl⟩ | ⟨g, cap', cur, rfl, _, _, hnc, _⟩
      · simp [Builtin.append_, run_underlying Try.underlying51, sizeOf, typeInfo, hi, Builtin.lenOf, Builtin.firstCells]
      · simp [Builtin.append_, run_underlying Try.underlying51, sizeOf, typeInfo, hi, Builtin.lenOf, Builtin.firstCells, hnc, storeCells]
    · obtain ⟨v', w', hrun, h2, h3, _, h5⟩ := run_append_own_at (P := Try.prog) w B 51 ty 96 i0 _ 8 64 Try.underlying51 hi hz hs hby rfl (by decide) v n _ hown ad 0 cap [] rfl (by simp) (by simp) h63 hbytes hB
      exact ⟨v', w', hrun, by simpa [cellsT] using h2, h3, h5⟩
  · obtain ⟨v', w', hrun, h2, h3, _, h5⟩ := run_append_own_at (P := Try.prog) w B 51 ty 96 i0 _ 8 64 Try.underlying51 hi hz hs hby rfl (by decide) v n _ hown ⟨b, off, none⟩ m cap (cellsT h m) (cellsT_length h m)
      (fun j u hu => by
        obtain ⟨i, q, hi, hq, rfl, rfl⟩ := cellsT_at h m j u hu
        rw [Go.WideShapes.add_plain, ← Nat.add_assoc]
        exact hc i hi q hq) (cellsT_one h m) h63 hbytes hB
    exact ⟨v', w', hrun, h2, h3, h5⟩

theorem wp_append_tms {o : Oper} {a : Act} {K : Act → World → Prop} {Q : Exit → Act → World → Prop} {w : World} (s x : Operand)
    (ho : o.op = .call { callee := .builtin .append, args := #[s, x], argTypes := #[51, 51] })
    (B : Nat) (v : Value) (n : Nat) (f : Tms) (hs : a.eval s = v) (hown : w.ownsRow B 96 8 v n (cellsT f n)) (y : Value) (m : Nat) (h : Tms) (hx : a.eval x = y) (hrow : RowTAt w y m h) (hn : n + m ≤ 2097152) (hB : B ≤ w.heap.size)
    (hK : ∀ v' w', w'.ownsRow B 96 8 v' (n + m) (cellsT f n ++ cellsT h m) → w.grownBy w' v.ownBlock → (v'.ownBlock = v.ownBlock ∨ v'.ownBlock = some w.heap.size) → K (a.put o.dst v') w') : o.wp Try.prog a w K Q := by
  obtain ⟨v', w', hr, h2, h3, h4⟩ := run_append_tms w B o.type v n f hown y m h hrow hn hB
  unfold Oper.wp execOp
  simp only [ho, resolve, invoke, builtin, Sem.run_bind, Sem.run_pure, Result.andThen_ok, List.map_toArray, List.map_cons, List.map_nil, hs, hx, hr]
  exact hK v' w' h2 h3 h4
theorem wpList_append_tms {ops : Array Oper} {rest : List Oper} {o : Oper} {a : Act} {Q : Exit → Act → World → Prop} {w : World} (hgd : o.guard = none) (s x : Operand)
    (ho : o.op = .call { callee := .builtin .append, args := #[s, x], argTypes := #[51, 51] })
    (B : Nat) (v : Value) (n : Nat) (f : Tms) (hs : a.eval s = v) (hown : w.ownsRow B 96 8 v n (cellsT f n)) (y : Value) (m : Nat) (h : Tms) (hx : a.eval x = y) (hrow : RowTAt w y m h) (hn : n + m ≤ 2097152) (hB : B ≤ w.heap.size)
    (hK : ∀ v' w', w'.ownsRow B 96 8 v' (n + m) (cellsT f n ++ cellsT h m) → w.grownBy w' v.ownBlock → (v'.ownBlock = v.ownBlock ∨ v'.ownBlock = some w.heap.size) → wpList Try.prog ops Q rest (a.put o.dst v') w') : wpList Try.prog ops Q (o :: rest) a w :=
  wpList_plain hgd fun _ hK' => wp_append_tms s x ho B v n f hs hown y m h hx hrow hn hB fun v' w' h2 h3 h4 => hK' _ _ (hK v' w' h2 h3 h4)
theorem step_append_tms {ops : Array Oper} {o : Oper} {a : Act} {K : Act → World → Prop} {Q : Exit → Act → World → Prop} {E : Prop} {w : World} (hgd : o.guard = none) (s x : Operand)
    (ho : o.op = .call { callee := .builtin .append, args := #[s, x], argTypes := #[51, 51] })
    (B : Nat) (v : Value) (n : Nat) (f : Tms) (hs : a.eval s = v) (hown : w.ownsRow B 96 8 v n (cellsT f n)) (y : Value) (m : Nat) (h : Tms) (hx : a.eval x = y) (hrow : RowTAt w y m h) (hn : n + m ≤ 2097152) (hB : B ≤ w.heap.size)
    (hK : ∀ v' w', w'.ownsRow B 96 8 v' (n + m) (cellsT f n ++ cellsT h m) → w.grownBy w' v.ownBlock → (v'.ownBlock = v.ownBlock ∨ v'.ownBlock = some w.heap.size) → K (a.put o.dst v') w') :
    if Region.wanted o (yielded ops a.tmps) = true then Oper.wp Try.prog o a w K Q else E := by
  have hw : Region.wanted o (yielded ops a.tmps) = true := by simp [Region.wanted, hgd]
  rw [if_pos hw]
  exact wp_append_tms s x ho B v n f hs hown y m h hx hrow hn hB hK
theorem cellsT_congr {f g : Tms} : ∀ n, (∀ i, i < n → f i = g i) → cellsT f n = cellsT g n
  | 0, _ => rfl
  | n + 1, h => by rw [cellsT, cellsT, cellsT_congr n (fun i hi => h i (by omega)), h n (by omega)]
theorem cellsT_push (f : Tms) (n : Nat) (t : Tm) : cellsT f n ++ cellsT (fun _ => t) 1 = cellsT (putT f n t) (n + 1) := by
  rw [show cellsT (putT f n t) (n + 1) = cellsT (putT f n t) n ++ [.int .i64 ((putT f n t) n).st, .int .i64 ((putT f n t) n).wh, .int .i64 ((putT f n t) n).nx, .int .i64 ((putT f n t) n).pe, .int .i64 ((putT f n t) n).pl, .int .i64 ((putT f n t) n).ge, .int .i64 ((putT f n t) n).ki, .int .i64 ((putT f n t) n).ma] from rfl, cellsT_congr (f := putT f n t) (g := f) n (fun i hi => putT_other f (i := n) (k := i) t (by omega)), putT_same]
  rfl
/-- a list of no timers that was just made -/
theorem ownT_new (f : Tms) {w : World} {b B : Nat} (h : b = w.heap.size) (hB : B ≤ w.heap.size) : (w.alloc (.cells #[] 96)).ownsRow B 96 8 (.slice (some ⟨b, 0, none⟩) 0 0) 0 (cellsT f 0) := by
  subst h
  exact World.ownsRow_made w (base := B) (e := 96) (size := 8) #[] 0 hB (Nat.zero_le _) rfl

end Go.Proofs.Ytnmaljieaflnmaa

/-
  The builtin copy of a whole list into one that was just made, whatever the elements' size; the program's copyOf.
-/
namespace Go.Proofs.Ytnmaljieaflnmaa
open Go.RowKit Go.Joins
set_option linter.unusedVariables false

theorem run_copy_whole {P : Program} (w : World) (T ty e : TypeId) (size : Nat) (g n : Nat) (v : Value) (cur : Array Value) (xs : List Value)
    (hu : P.underlying T = some (.slice e)) (hs : (P.info? e).map (·.size) = some size) (hv : (n = 0 ∧ ∃ a cap, v = .slice a 0 cap) ∨ ∃ ad cap, v = .slice (some ad) n cap ∧ ∀ j u, xs[j]? = some u → w.cell? (ad.add j) = some u)
    (hg : w.heap[g]? = some (.cells cur e (0, 0))) (hc : cur.size = n * size) (hl : xs.length = n * size) (h1 : ∀ u ∈ xs, u.oneCell' = true) :
    ∃ w', (Builtin.copy_ #[T, T] ty #[.slice (some ⟨g, 0, none⟩) n n, v]).run P w = .ok (goInt n) w' ∧ w'.heap[g]? = some (.cells xs.toArray e (0, 0)) ∧ w.grownBy w' (some g) := by
  cases hq : P.info? e with
  | none => simp [hq] at hs
  | some i =>
    have hi : i.size = size := by simpa [hq] using hs
    rcases hv with ⟨rfl, a, cap, rfl⟩ | ⟨ad, cap, rfl, hsrc⟩
    · have hx : xs = [] := List.eq_nil_of_length_eq_zero (by simpa using hl)
      subst hx
      have hcur : cur = #[] := Array.eq_empty_of_size_eq_zero (by simpa using hc)
      subst hcur
      refine ⟨w, ?_, hg, g_refl w _⟩
      have hld : ∀ (x : Addr), (loadCells x 0).run P w = .ok #[] w := fun x => by simpa using run_loadCells_list (P := P) w x [] (by simp)
      cases a <;> simp [Builtin.copy_, run_underlying hu, Builtin.lenOf, Builtin.firstCells, sizeOf, typeInfo, hq, storeCells, hld]
    · have hld := run_loadCells_list (P := P) w ad xs hsrc
      have hst := run_storeCells_at P g 0 e xs 0 cur w hg (by omega) h1
      refine ⟨w.setRow g xs.toArray, ?_, setRow_heap w g cur _ e _ hg, rfl, rfl, rfl, by simp, fun k _ hk => setRow_other w g k _ (fun h => hk (by rw [h]))⟩
      have hdrop : cur.toList.drop (0 + 0 + xs.length) = [] := List.drop_eq_nil_of_le (by simp; omega)
      rw [hdrop] at hst
      rw [hl] at hld
      have hst2 : (storeCells ⟨g, 0, none⟩ xs).run P w = .ok () (w.setRow g xs.toArray) := by simpa using hst
      simp [Builtin.copy_, run_underlying hu, Builtin.lenOf, Builtin.firstCells, sizeOf, typeInfo, hq, hi, hld, hst2]

theorem wpList_copy_whole {P : Program} {w : World} {ops : Array Oper} {rest : List Oper} {o : Oper} {a : Act} {Q : Exit → Act → World → Prop} (hgd : o.guard = none) (d s : Operand) (T : TypeId)
    (ho : o.op = .call { callee := .builtin .copy, args := #[d, s], argTypes := #[T, T] }) (e : TypeId) (size : Nat) (g n : Nat) (v : Value) (cur : Array Value) (xs : List Value)
    (hd : a.eval d = .slice (some ⟨g, 0, none⟩) n n) (hsv : a.eval s = v)
    (hu : P.underlying T = some (.slice e)) (hs : (P.info? e).map (·.size) = some size) (hv : (n = 0 ∧ ∃ a cap, v = .slice a 0 cap) ∨ ∃ ad cap, v = .slice (some ad) n cap ∧ ∀ j u, xs[j]? = some u → w.cell? (ad.add j) = some u)
    (hg : w.heap[g]? = some (.cells cur e (0, 0))) (hc : cur.size = n * size) (hl : xs.length = n * size) (h1 : ∀ u ∈ xs, u.oneCell' = true)
    (h : ∀ w', w'.heap[g]? = some (.cells xs.toArray e (0, 0)) → w.grownBy w' (some g) → wpList P ops Q rest (a.put o.dst (goInt n)) w') : wpList P ops Q (o :: rest) a w := by
  refine wpList_plain hgd fun K hK => ?_
  obtain ⟨w', hrun, h2, h3⟩ := run_copy_whole (P := P) w T o.type e size g n v cur xs hu hs hv hg hc hl h1
  unfold Oper.wp
  simp [execOp, ho, resolve, invoke, builtin, hd, hsv, hrun, Result.andThen]
  exact hK _ _ (h w' h2 h3)

theorem slot_info1 : (Try.prog.info? 35).map (fun i => (i.zero, i.size, i.bytes)) = some (some (.agg #[.int .i64 0, .int .i64 0]), 2, 16) := by kernel_rfl
theorem size_of_info {P : Program} {e : TypeId} {z : Option Value} {s b : Nat} (h : (P.info? e).map (fun i => (i.zero, i.size, i.bytes)) = some (z, s, b)) : (P.info? e).map (·.size) = some s := by
  cases hq : P.info? e with
  | none => simp [hq] at h
  | some i => simp [hq] at h ⊢; exact h.2.1
abbrev madeT (n : Nat) : Obj := .cells (madeCells #[.int .i64 0, .int .i64 0, .int .i64 0, .int .i64 0, .int .i64 0, .int .i64 0, .int .i64 0, .int .i64 0] (n * 8)) 96
theorem run_make_tms (n : Nat) (hn : n ≤ 1048576) : ∀ w : World, (Instr.makeSlice 51 (.int .i64 (n : Int)) (.int .i64 (n : Int))).run Try.prog w = .ok (.slice (some ⟨w.heap.size, 0, none⟩) n n) (w.alloc (madeT n)) := by
  intro w
  obtain ⟨i0, hi, hz, hs, hby⟩ := info_parts timer_info2
  have hr := run_make (P := Try.prog) w 51 96 i0 _ Try.underlying51 hi hz .i64 .i64 (n : Int) (n : Int) (by omega) (by omega) (by rw [hby]; omega) (by omega)
  rw [hs] at hr
  simp only [Int.toNat_natCast] at hr
  exact hr
abbrev madeS (n : Nat) : Obj := .cells (madeCells #[.int .i64 0, .int .i64 0] (n * 2)) 35
theorem run_make_slots2 (n : Nat) (hn : n ≤ 1048576) : ∀ w : World, (Instr.makeSlice 26 (.int .i64 (n : Int)) (.int .i64 (n : Int))).run Try.prog w = .ok (.slice (some ⟨w.heap.size, 0, none⟩) n n) (w.alloc (madeS n)) := by
  intro w
  obtain ⟨i0, hi, hz, hs, hby⟩ := info_parts slot_info1
  have hr := run_make (P := Try.prog) w 26 35 i0 _ Try.underlying26 hi hz .i64 .i64 (n : Int) (n : Int) (by omega) (by omega) (by rw [hby]; omega) (by omega)
  rw [hs] at hr
  simp only [Int.toNat_natCast] at hr
  exact hr

set_option maxRecDepth 100000 in
set_option maxHeartbeats 2000000 in
theorem copyT_any {v : Value} {n : Nat} {f : Tms} {w : World} (hn : n ≤ 1048576) (h : RowTAt w v n f) :
    Calls Try.prog 110 #[v] w fun e w' => ∃ u, e = .returned u ∧ OwnTRow w' w.heap.size u n f ∧ Below w.heap.size w w' := by
  have hmk := run_make_tms n hn
  obtain ⟨va, vc, hv⟩ := h.form
  have k0 := (Below.refl w.heap.size w).alloc (Nat.le_refl _) (madeT n)
  have H := Lib.hid (h.below k0)
  have hN := Lib.hid (heap_alloc_new w (madeT n))
  clear h
  subst hv
  obtain ⟨w2, hrun, hg2, hgr⟩ := run_copy_whole (P := Try.prog) (w.alloc (madeT n)) 51 3 96 8 w.heap.size n (.slice va n vc) _ (cellsT f n) Try.underlying51 (size_of_info timer_info2) (by
    rcases H.out with ⟨h0, a, cap, e⟩ | ⟨b, off, cap, e, hl, hc⟩
    · exact .inl ⟨h0, _, _, e⟩
    · refine .inr ⟨_, _, e, fun j u hu => ?_⟩
      obtain ⟨i, q, hi, hq, rfl, rfl⟩ := cellsT_at f n j u hu
      rw [Go.WideShapes.add_plain, ← Nat.add_assoc]
      exact hc i hi q hq) hN.out (size_madeCells _ _) (cellsT_length f n) (cellsT_one f n)
  go_enter Try.func110, Try.ntmps110
  go_wp2
  have kn := k0.trans (b_grown hgr (Nat.le_refl _) k0.size)
  go_ret
  refine ⟨_, rfl, ownT_of_row ⟨cellsT_length f n, .inr ⟨w.heap.size, n, _, rfl, Nat.le_refl _, hg2, Nat.le_refl _, by unfold maxLen; omega, by simp [cellsT_length], ?_⟩⟩, kn⟩
  rw [← cellsT_length f n]; simp

set_option maxRecDepth 100000 in
set_option maxHeartbeats 2000000 in
theorem copyS_any {v : Value} {n : Nat} {f : Slots} {w : World} (hn : n ≤ 1048576) (h : RowAt w v n f) :
    Calls Try.prog 111 #[v] w fun e w' => ∃ u, e = .returned u ∧ OwnRow w' w.heap.size u n f ∧ Below w.heap.size w w' := by
  have hmk := run_make_slots2 n hn
  obtain ⟨va, vc, hv⟩ := h.form
  have k0 := (Below.refl w.heap.size w).alloc (Nat.le_refl _) (madeS n)
  have H := Lib.hid (h.below k0)
  have hN := Lib.hid (heap_alloc_new w (madeS n))
  clear h
  subst hv
  obtain ⟨w2, hrun, hg2, hgr⟩ := run_copy_whole (P := Try.prog) (w.alloc (madeS n)) 26 3 35 2 w.heap.size n (.slice va n vc) _ (cellsF f n) Try.underlying26 (size_of_info slot_info1) (by
    rcases H.out with ⟨h0, a, cap, e⟩ | ⟨b, off, cap, e, hl, hc⟩
    · exact .inl ⟨h0, _, _, e⟩
    · refine .inr ⟨_, _, e, fun j u hu => ?_⟩
      obtain ⟨i, hi, ⟨rfl, rfl⟩ | ⟨rfl, rfl⟩⟩ := cellsF_at f n j u hu
      · rw [Go.WideShapes.add_plain]; exact (hc i hi).1
      · rw [Go.WideShapes.add_plain, ← Nat.add_assoc]; exact (hc i hi).2) hN.out (size_madeCells _ _) (cellsF_length f n) (cellsF_one f n)
  go_enter Try.func111, Try.ntmps111
  go_wp2
  have kn := k0.trans (b_grown hgr (Nat.le_refl _) k0.size)
  go_ret
  refine ⟨_, rfl, own_of_row ⟨cellsF_length f n, .inr ⟨w.heap.size, n, _, rfl, Nat.le_refl _, hg2, Nat.le_refl _, by unfold maxLen; omega, by simp [cellsF_length], ?_⟩⟩, kn⟩
  rw [← cellsF_length f n]; simp

end Go.Proofs.Ytnmaljieaflnmaa

/-
  Blocks of other types are other blocks: what is written into one leaves the other.
-/
namespace Go.Proofs.Ytnmaljieaflnmaa
open Go.RowKit Go.Joins
set_option linter.unusedVariables false

/-- blocks of other types are other blocks -/
theorem ne_ty {w : World} {b g : Nat} {c1 c2 : Array Value} {t1 t2 : TypeId} (h1 : w.heap[b]? = some (.cells c1 t1 (0, 0))) (h2 : w.heap[g]? = some (.cells c2 t2 (0, 0))) (h : t1 ≠ t2) : b ≠ g := by
  rintro rfl
  rw [h1] at h2
  injection h2 with h2
  injection h2 with _ h3 _
  exact h h3
theorem OwnTRow.other {w w' : World} {B n x : Nat} {v : Value} {f : Tms} {cx : Array Value} {tx : TypeId} (h : OwnTRow w B v n f) (hx : w.heap[x]? = some (.cells cx tx (0, 0))) (ht : 96 ≠ tx) (e : ∀ y, y ≠ x → w'.heap[y]? = w.heap[y]?) : OwnTRow w' B v n f := by
  rcases h with h | ⟨g, cap, ev, h⟩
  · exact .inl h
  · refine .inr ⟨g, cap, ev, h.block (e g ?_)⟩
    obtain ⟨_, _, _, cur, hh, _⟩ := h
    exact ne_ty hh hx ht
theorem heap_set3 (w : World) (b : Nat) (x y z : Value) {k : Nat} (hk : k ≠ b) : (((w.setCell ⟨b, 0, none⟩ x).setCell ⟨b, 1, none⟩ y).setCell ⟨b, 2, none⟩ z).heap[k]? = w.heap[k]? :=
  (Below.heap_setCell _ ⟨b, 2, none⟩ z k hk).trans ((Below.heap_setCell _ ⟨b, 1, none⟩ y k hk).trans (Below.heap_setCell _ ⟨b, 0, none⟩ x k hk))
/-- a block of another type than a slots' list's -/
theorem own_ne {w : World} {B n x : Nat} {v : Value} {f : Slots} {cx : Array Value} {tx : TypeId} (ho : OwnRow w B v n f) (hx : w.heap[x]? = some (.cells cx tx (0, 0))) (ht : 35 ≠ tx) : ∀ y, v.ownBlock = some y → y ≠ x := by
  intro y hy
  rcases ho with ⟨_, rfl⟩ | ⟨g', cap', rfl, ho⟩
  · simp [Value.ownBlock] at hy
  · simp [Value.ownBlock] at hy
    subst hy
    obtain ⟨_, _, _, cur', hh', _⟩ := ho
    exact ne_ty hh' hx ht

end Go.Proofs.Ytnmaljieaflnmaa

/-
  A memory as the program works with it (chapter 5): of the call's own.
-/
namespace Go.Proofs.Ytnmaljieaflnmaa
open Go.RowKit Go.Joins
set_option linter.unusedVariables false

/-- only the slots' list of one processor is stored -/
theorem ListXAt.putH {w : World} {B g m cap : Nat} {P : Pcs} {V : Nat → Value} (h : ListXAt w B g m cap P V) {k : Nat} (hk : k < m) (u : Value) : ListXAt (w.setCell ⟨g, k * 4 + 1, none⟩ u) B g m cap P (putV V k u) := by
  obtain ⟨h1, h2, h3, cur, hh, hs, hr⟩ := h
  refine ⟨h1, h2, h3, _, block_setCell hh (i := k * 4 + 1) _, by simp [hs], fun i hi => ?_⟩
  obtain ⟨x0, x1, x2, x3⟩ := hr i hi
  have hx : k * 4 + 1 < cur.size := by omega
  refine ⟨?_, ?_, ?_, ?_⟩
  · rw [Array.getElem?_setIfInBounds_ne (by omega)]; exact x0
  · by_cases e : i = k
    · subst e; rw [putV_same, Array.getElem?_setIfInBounds_self_of_lt hx]
    · rw [putV_other V u e, Array.getElem?_setIfInBounds_ne (by omega)]; exact x1
  · rw [Array.getElem?_setIfInBounds_ne (by omega)]; exact x2
  · rw [Array.getElem?_setIfInBounds_ne (by omega)]; exact x3
theorem ListXAt.ne_mem {w : World} {B g m cap mb : Nat} {P : Pcs} {V : Nat → Value} {a b c k : Int} {tv pv : Value} (h : ListXAt w B g m cap P V) (hm : w.heap[mb]? = some (memB a b c k tv pv)) : g ≠ mb := by
  obtain ⟨_, _, _, cur, hh, _⟩ := h
  exact ne_ty hh hm (by decide)
theorem ListXAt.ne_heap {w : World} {B g m cap B' n : Nat} {P : Pcs} {V : Nat → Value} {v : Value} {f : Slots} (h : ListXAt w B g m cap P V) (ho : OwnRow w B' v n f) : ∀ x, v.ownBlock = some x → x ≠ g := by
  intro x hx
  rcases ho with ⟨_, rfl⟩ | ⟨g', cap', rfl, ho⟩
  · simp [Value.ownBlock] at hx
  · simp [Value.ownBlock] at hx
    subst hx
    obtain ⟨_, _, _, cur, hh, _⟩ := h
    obtain ⟨_, _, _, cur', hh', _⟩ := ho
    exact ne_ty hh' hh (by decide)
theorem own_ne_mem {w : World} {B n mb : Nat} {v : Value} {f : Slots} {a b c k : Int} {tv pv : Value} (ho : OwnRow w B v n f) (hm : w.heap[mb]? = some (memB a b c k tv pv)) : ∀ x, v.ownBlock = some x → x ≠ mb := by
  intro x hx
  rcases ho with ⟨_, rfl⟩ | ⟨g', cap', rfl, ho⟩
  · simp [Value.ownBlock] at hx
  · simp [Value.ownBlock] at hx
    subst hx
    obtain ⟨_, _, _, cur', hh', _⟩ := ho
    exact ne_ty hh' hm (by decide)
/-- a memory of the call's own: its block, its timers, its processors, their slots -/
def OwnedAt (w : World) (B mb : Nat) (a b c : Int) (M : Me) : Prop :=
  ∃ tv g V, B ≤ mb ∧ w.heap[mb]? = some (memB a b c M.c tv (.slice (some ⟨g, 0, none⟩) M.pn M.pn)) ∧ OwnTRow w B tv M.tn M.t ∧ ListXAt w B g M.pn M.pn M.p V ∧ HeapsAt w B M.pn M.p V
theorem OwnedAt.below {w w' : World} {B mb : Nat} {a b c : Int} {M : Me} (h : OwnedAt w B mb a b c M) (hb : Below w.heap.size w w') : OwnedAt w' B mb a b c M := by
  obtain ⟨tv, g, V, h0, h1, h2, h3, h4⟩ := h
  exact ⟨tv, g, V, h0, b_block hb h1 (lt_of_block h1), h2.below hb, h3.below hb, h4.below hb⟩
theorem OwnedAt.mono {w : World} {B B' mb : Nat} {a b c : Int} {M : Me} (h : OwnedAt w B mb a b c M) (hB : B' ≤ B) : OwnedAt w B' mb a b c M := by
  obtain ⟨tv, g, V, h0, h1, h2, h3, h4⟩ := h
  exact ⟨tv, g, V, Nat.le_trans hB h0, h1, h2.mono hB, h3.mono hB, h4.mono hB⟩
theorem OwnedAt.seen {w : World} {B mb : Nat} {a b c : Int} {M : Me} (h : OwnedAt w B mb a b c M) : SeenAt w mb a b c M := by
  obtain ⟨tv, g, V, _, h1, h2, h3, h4⟩ := h
  exact ⟨tv, _, h1, h2.row, h3.row (fun i hi => (h4.1 i hi).row)⟩

set_option maxRecDepth 100000 in
set_option maxHeartbeats 4000000 in
theorem ownMemory_no (a b c : Int) {tv pv : Value} {M : Me} {w : World} (hs : sizeM M ≤ 1048576) (h : MemAt w tv pv M) (hok : memOkB a b c M = false) :
    Calls Try.prog 81 #[.agg #[.int .i64 a, .int .i64 b, .int .i64 c], meV M.c tv pv] w fun x w' => x = .returned (.pointer none) ∧ Below w.heap.size w w' := by
  obtain ⟨va, vc, qa, qc, rfl, rfl⟩ := h.form
  have k0 := ((Below.refl w.heap.size w).alloc (Nat.le_refl _) (.cells #[.int .i64 a, .int .i64 b, .int .i64 c] 25)).alloc (by simp) (memO M.c (.slice va M.tn vc) (.slice qa M.pn qc) 54)
  have HM := Lib.hid (h.below k0)
  have HOK := Lib.hid hok
  clear h hok
  go_enter Try.func81, Try.ntmps81
  go_wp2_with fail
  go_at_call 69; refine (seenIn_any a b c hs HM.out).mono ?_; rintro x w1 ⟨mb, rfl, hS, hb⟩
  have k1 := k0.trans (hb.mono k0.size)
  go_wp2_with fail
  go_at_call 70; refine (memRight_any hs (hS.seen hb)).mono ?_; rintro x w2 ⟨rfl, hb2⟩; rw [HOK.out]
  go_wp2
  go_ret
  exact ⟨rfl, k1.trans (hb2.mono k1.size)⟩

set_option maxRecDepth 100000 in
set_option maxHeartbeats 8000000 in
theorem ownMemory_yes (a b c : Int) {tv pv : Value} {M : Me} {w : World} (hs : sizeM M ≤ 1048576) (h : MemAt w tv pv M) (hok : memOkB a b c M = true) :
    Calls Try.prog 81 #[.agg #[.int .i64 a, .int .i64 b, .int .i64 c], meV M.c tv pv] w fun x w' => ∃ mb, x = .returned (ptrV mb) ∧ OwnedAt w' w.heap.size mb a b c M ∧ Below w.heap.size w w' := by
  obtain ⟨htn, hpn, hsl, hns⟩ := sizeM_le hs
  obtain ⟨va, vc, qa, qc, rfl, rfl⟩ := h.form
  have k0 := ((Below.refl w.heap.size w).alloc (Nat.le_refl _) (.cells #[.int .i64 a, .int .i64 b, .int .i64 c] 25)).alloc (by simp) (memO M.c (.slice va M.tn vc) (.slice qa M.pn qc) 54)
  have HM := Lib.hid (h.below k0)
  have HOK := Lib.hid hok
  have HNS := Lib.hid hns
  clear h hok hns hsl
  go_enter Try.func81, Try.ntmps81
  go_wp2_with fail
  generalize (w.alloc (.cells #[.int .i64 a, .int .i64 b, .int .i64 c] 25)).alloc (memO M.c (.slice va M.tn vc) (.slice qa M.pn qc) 54) = W at k0 HM ⊢
  go_at_call 69; refine (seenIn_any a b c hs HM.out).mono ?_; rintro x w1 ⟨mb, rfl, hS, hb⟩
  have hWs := k0.size
  have hS2 := fun (w2 : World) (hW : Below w1.heap.size w1 w2) => hS.below hW
  have hSA := hS.seen hb
  clear hS HM
  go_wp2_with fail
  go_at_call 70; refine (memRight_any hs hSA).mono ?_; rintro x w2 ⟨rfl, hb2⟩; rw [HOK.out]
  have k2 := hb.trans (hb2.mono hb.size)
  obtain ⟨tv, g, V0, hB0, hM2, hT0, hL2, hV0⟩ := hS2 w2 hb2
  clear hS2 hb hb2 hSA
  obtain ⟨ta, tc, htv⟩ := hT0.form
  subst htv
  have HV0 := Lib.hid hV0
  have lM2 := lt_of_block hM2
  obtain ⟨m0, m1, m2, m3, m4, m5⟩ := six hM2
  have mf4 := unfrozen_of_block hM2 4
  clear hV0
  go_wp2_with fail
  go_at_call 110; refine (copyT_any htn (hT0.below k2)).mono ?_; rintro x w3 ⟨u, rfl, hU, hb⟩
  have k3 := k2.trans (hb.mono k2.size)
  have hM3 := b_block hb hM2 lM2
  have hL3 := hL2.below hb
  have hU3 := hU.mono k2.size
  have hne := hL3.ne_mem hM3
  have hMs := block_setCell hM3 (i := 4) u
  have hUs := hU3.other (w' := w3.setCell ⟨mb, 4, none⟩ u) hM3 (by decide) (fun y hy => Below.heap_setCell w3 ⟨mb, 4, none⟩ u y hy)
  have hLs := hL3.block (Below.heap_setCell w3 ⟨mb, 4, none⟩ u g hne)
  have ks := k3.setCell (p := ⟨mb, 4, none⟩) hB0 u
  obtain ⟨n0, n1, n2, n3, n4, n5⟩ := six hM3
  have nf4 := unfrozen_of_block hM3 4
  obtain ⟨ua, uc, hu⟩ := hU.row.form
  subst hu
  obtain ⟨p0, p1, p2, p3, p4, p5⟩ := six hMs
  clear m0 m1 m2 m3 m4 m5 mf4 hb hM2 hL2 lM2 hU hU3 hL3 hM3 k2 k3
  go_wp2_with fail
  generalize w3.setCell ⟨mb, 4, none⟩ (.slice ua M.tn uc) = w4 at ks hLs hUs hMs p0 p1 p2 p3 p4 p5 ⊢
  clear n0 n1 n2 n3 n4 n5 nf4
  go_wp2_with fail
  clear p0 p1 p2 p3 p4 p5
  have hMs' : w4.heap[mb]? = some (memB a b c M.c (.slice ua M.tn uc) (.slice (some ⟨g, 0, none⟩) M.pn M.pn)) := hMs
  clear hMs
  go_loopw [26] (fun i wr => ∃ (k : Nat) (V : Nat → Value), k ≤ M.pn ∧ i = .int .i64 k ∧ wr.heap[mb]? = some (memB a b c M.c (.slice ua M.tn uc) (.slice (some ⟨g, 0, none⟩) M.pn M.pn)) ∧ OwnTRow wr W.heap.size (.slice ua M.tn uc) M.tn M.t ∧ ListXAt wr W.heap.size g M.pn M.pn M.p V ∧ HeapsAt wr W.heap.size k M.p V ∧ (∀ i, k ≤ i → i < M.pn → V i = V0 i) ∧ Below W.heap.size W wr) (fun i _ => M.pn - (intOf i).toNat)
  case atStart => exact ⟨0, V0, Nat.zero_le _, rfl, hMs', hUs, hLs, HeapsAt.zero _ _ _ _, fun _ _ _ => rfl, ks⟩
  case round =>
    clear hMs' hUs hLs ks
    obtain ⟨k, V, hk, rfl, hM, hU, hL, hH, hV, kw⟩ := hrel
    obtain ⟨m0, m1, m2, m3, m4, m5⟩ := six hM
    by_cases hlt : k < M.pn
    · have i1 : (k : Int) < (M.pn : Int) := by omega
      have i0 : (0 : Int) ≤ (k : Int) := by omega
      have hnk := HNS.out k hlt
      have hrow := (HV0.out k hlt).below kw
      rw [← hV k (Nat.le_refl _) hlt] at hrow
      obtain ⟨ra, rc, hr⟩ := hrow.form
      obtain ⟨d0, d1, d2, d3⟩ := hL.cells hlt
      have lM := lt_of_block hM
      rw [hr] at hrow d1
      go_wp2_with fail
      go_region_law (first
        | (go_simp; go_at_call 111; refine (copyS_any hnk hrow.drew).mono ?_; rintro x w5 ⟨v, rfl, hO, hb⟩
           replace hb := (Below.refl _ wr).drew.trans (hb.mono (Nat.le_refl _))
           have hM5 := b_block hb hM lM
           have hL5 := hL.below hb
           have fr := hL5.free
           have f1 := fr (k * 4 + 1)
           obtain ⟨b0, b1, b2, b3⟩ := hL5.cells hlt
           rw [hr] at b1
           obtain ⟨n0, n1, n2, n3, n4, n5⟩ := six hM5
           obtain ⟨oa, oc, ho⟩ := hO.value
           subst ho))
      all_goals
        have hU5 := hU.below hb
        have hH5 := hH.push hb kw.size (p := M.p k) hO
        have k5 := kw.trans (hb.mono kw.size)
        have hLn := hL5.putH hlt (.slice oa (M.p k).n oc)
        have hgm := hL5.ne_mem hM5
        have hMn := (Below.heap_setCell w5 ⟨g, k * 4 + 1, none⟩ (.slice oa (M.p k).n oc) mb (Ne.symm hgm)).trans hM5
        have hUn : OwnTRow (w5.setCell ⟨g, k * 4 + 1, none⟩ (.slice oa (M.p k).n oc)) W.heap.size (.slice ua M.tn uc) M.tn M.t := by
          obtain ⟨_, _, _, cur, hh, _⟩ := hL5
          exact hU5.other hh (by decide) (fun y hy => Below.heap_setCell w5 ⟨g, k * 4 + 1, none⟩ (.slice oa (M.p k).n oc) y hy)
        have hHn : HeapsAt (w5.setCell ⟨g, k * 4 + 1, none⟩ (.slice oa (M.p k).n oc)) W.heap.size (k + 1) M.p (putV V k (.slice oa (M.p k).n oc)) :=
          (hH5.other (fun i hi x hx => Below.heap_setCell w5 ⟨g, k * 4 + 1, none⟩ (.slice oa (M.p k).n oc) x (hL5.ne_heap (hH5.1 i hi) x hx))).congr (fun i hi => by unfold putP; split <;> simp_all) (fun _ _ => rfl)
        have kn := k5.setCell (p := ⟨g, k * 4 + 1, none⟩) hL5.1 (.slice oa (M.p k).n oc)
        have hVn : ∀ i, k + 1 ≤ i → i < M.pn → putV V k (.slice oa (M.p k).n oc) i = V0 i := fun i h1 h2 => by rw [putV_other V _ (by omega)]; exact hV i (by omega) h2
        clear n0 n1 n2 n3 n4 n5 m0 m1 m2 m3 m4 m5 d0 d1 d2 d3 b0 b1 b2 b3 f1 fr hH5 hU5 hL5 hM5 hb hO
        go_wp2
        exact ⟨⟨k + 1, _, by omega, by go_num, hMn, hUn, hLn, hHn, hVn, kn⟩, by simp only [intOf]; omega⟩
    · have hkn : k = M.pn := by omega
      subst hkn
      have i1 : ¬ (M.pn : Int) < (M.pn : Int) := by omega
      go_wp2
      go_ret
      exact ⟨mb, rfl, ⟨_, g, V, Nat.le_trans hWs hB0, hM, hU.mono hWs, hL.mono hWs, hH.mono hWs⟩, k0.trans (kw.mono hWs)⟩

end Go.Proofs.Ytnmaljieaflnmaa

/-
  A time, and that much later (chapter 1): the model's After.
-/
namespace Go.Proofs.Ytnmaljieaflnmaa
open Go.RowKit
set_option linter.unusedVariables false

/-- a delay, cut -/
def dl (d : Int) : Int := if d < 0 then 0 else if 1000000000 < d then 1000000000 else d
def afterI (t d : Int) : Int := if inB t 0 1000000000 then (if 1000000000 < t + dl d then 1000000000 else t + dl d) else -1
theorem afterI_no {t d : Int} (h : inB t 0 1000000000 = false) : afterI t d = -1 := by simp [afterI, h]
theorem afterI_neg {t d : Int} (h : inB t 0 1000000000 = true) (h1 : d < 0) : afterI t d = t := by
  have := inB_iff.1 h
  simp only [afterI, h, dl, if_pos h1, if_true]
  split <;> omega
theorem afterI_far {t d : Int} (h : inB t 0 1000000000 = true) (h1 : 1000000000 < t + d) (h2 : 0 ≤ d) : afterI t d = 1000000000 := by
  have := inB_iff.1 h
  simp only [afterI, h, dl, if_true]
  split <;> split at * <;> (try split at *) <;> omega
theorem afterI_in {t d : Int} (h : inB t 0 1000000000 = true) (h1 : t + d ≤ 1000000000) (h2 : 0 ≤ d) : afterI t d = t + d := by
  have := inB_iff.1 h
  simp only [afterI, h, dl, if_true]
  split <;> split at * <;> (try split at *) <;> omega

theorem dl_eq (d : Int) : maxI 0 (minI d 1000000000) = dl d := by
  unfold maxI minI dl
  (repeat' split) <;> omega
theorem dl_bd (d : Int) : 0 ≤ dl d ∧ dl d ≤ 1000000000 := by unfold dl; split <;> (try split) <;> omega
theorem afterI_min {t d : Int} (h : inB t 0 1000000000 = true) : afterI t d = minI (t + dl d) 1000000000 := by
  simp only [afterI, h, minI, if_true]
  split <;> split <;> omega
set_option maxHeartbeats 400000 in
theorem spAfter_any (t d : Int) (w : World) :
    Calls Try.prog 80 #[.int .i64 t, .int .i64 d] w fun e w' => e = .returned (.int .i64 (afterI t d)) ∧ w = w' := by
  cases h1 : inB t 0 1000000000
  · rw [afterI_no h1]
    go_enter Try.func80, Try.ntmps80
    go_wp2_with (go_at_call 55; refine (l1Time_any _ _).mono ?_; rintro e w' ⟨rfl, rfl⟩)
    go_ret
    exact ⟨rfl, rfl⟩
  · obtain ⟨b1, b2⟩ := inB_iff.1 h1
    obtain ⟨b3, b4⟩ := dl_bd d
    have hd := Lib.hid (dl_eq d)
    rw [afterI_min h1]
    go_enter Try.func80, Try.ntmps80
    go_wp2_with (first
      | (go_at_call 55; refine (l1Time_any _ _).mono ?_; rintro e w' ⟨rfl, rfl⟩)
      | (go_at_call 58; refine (l1Min_any _ _ _).mono ?_; rintro e w' ⟨rfl, rfl⟩)
      | (go_at_call 57; refine (l1Max_any _ _ _).mono ?_; rintro e w' ⟨rfl, rfl⟩; rw [hd.out]))
    go_ret
    exact ⟨rfl, rfl⟩

end Go.Proofs.Ytnmaljieaflnmaa

/-
  A memory, copied; and later (spec, chapter 5).
-/
namespace Go.Proofs.Ytnmaljieaflnmaa
open Go.RowKit Go.Joins
set_option linter.unusedVariables false

theorem OwnRow.set4 {w : World} {B n b : Nat} {v : Value} {f : Slots} (h : OwnRow w B v n f) (hb : b < B) (x y z u : Value) :
    OwnRow ((((w.setCell ⟨b, 0, none⟩ x).setCell ⟨b, 1, none⟩ y).setCell ⟨b, 2, none⟩ z).setCell ⟨b, 3, none⟩ u) B v n f := (((h.set hb 0 x).set hb 1 y).set hb 2 z).set hb 3 u
theorem b_set4 {W w : World} {n g : Nat} (h : Below n W w) (hg : n ≤ g) (x y z u : Value) : Below n W ((((w.setCell ⟨g, 0, none⟩ x).setCell ⟨g, 1, none⟩ y).setCell ⟨g, 2, none⟩ z).setCell ⟨g, 3, none⟩ u) :=
  (((h.setCell (p := ⟨g, 0, none⟩) hg x).setCell (p := ⟨g, 1, none⟩) hg y).setCell (p := ⟨g, 2, none⟩) hg z).setCell (p := ⟨g, 3, none⟩) hg u

set_option maxRecDepth 100000 in
set_option maxHeartbeats 2000000 in
theorem l4Copy_any {v : Value} {n : Nat} {f : Slots} (l e d : Int) {w : World} (hn : n ≤ 1048576) (h : RowAt w v n f) :
    Calls Try.prog 109 #[prV v l e d] w fun x w' => ∃ u, x = .returned (prV u l e d) ∧ OwnRow w' w.heap.size u n f ∧ Below w.heap.size w w' := by
  have k0 := (Below.refl w.heap.size w).alloc (Nat.le_refl _) (.cells #[v, .int .i64 l, .int .i64 e, .int .i64 d] 28)
  have e0 : (w.alloc (.cells #[v, .int .i64 l, .int .i64 e, .int .i64 d] 28)).heap.size = w.heap.size + 1 := by simp
  have k1 := k0.alloc k0.size (.cells #[.slice none 0 0, .int .i64 0, .int .i64 0, .int .i64 0] 28)
  have hA := alloc_block (.cells #[.slice none 0 0, .int .i64 0, .int .i64 0, .int .i64 0] 28) (heap_alloc_new w (.cells #[v, .int .i64 l, .int .i64 e, .int .i64 d] 28))
  have hR := heap_alloc_new (w.alloc (.cells #[v, .int .i64 l, .int .i64 e, .int .i64 d] 28)) (.cells #[.slice none 0 0, .int .i64 0, .int .i64 0, .int .i64 0] 28)
  rw [e0] at hR
  have lA := lt_of_block hA
  have lR := lt_of_block hR
  have HR := Lib.hid (h.below k1)
  obtain ⟨va, vc, hv⟩ := h.form
  clear h
  subst hv
  go_enter Try.func109, Try.ntmps109
  go_wp2_with fail
  go_at_call 128; refine (l2Copy_any hn HR.out).mono ?_; rintro x w1 ⟨u, rfl, hO, hb⟩
  have hA1 := b_block hb hA lA
  have hR1 := b_block hb hR lR
  have k2 := k1.trans (hb.mono k1.size)
  replace hO := hO.mono (B' := w.heap.size + 1 + 1) (by simp)
  obtain ⟨ua, uc, hu⟩ := hO.row.form
  obtain ⟨a0, a1, a2, a3, af0, af1, af2, af3⟩ := four hA1
  obtain ⟨r0, r1, r2, r3, rf0, rf1, rf2, rf3⟩ := four hR1
  have k3 := k2.setCell (p := ⟨w.heap.size, 0, none⟩) (Nat.le_refl _) u
  have hO2 := hO.set (b := w.heap.size) (by omega) 0 u
  clear hb hA hR HR k0 k1 hA1 hR1 e0 lA lR hO
  subst hu
  go_wp2
  exact bodyPost_ret (v := prV (.slice ua n uc) l e d) (by simp [results, Try.results109, go_sem, r0, r1, r2, r3]) rfl ⟨_, rfl, (hO2.set4 (by omega) _ _ _ _).mono (by omega), b_set4 k3 (Nat.le_succ _) _ _ _ _⟩

theorem ne_of_type {w : World} {g b : Nat} {cs cs' : Array Value} {t t' : TypeId} (h : w.heap[g]? = some (.cells cs t (0, 0))) (h' : w.heap[b]? = some (.cells cs' t' (0, 0))) (hn : t ≠ t') : g ≠ b := by
  rintro rfl
  rw [h] at h'
  injection h' with h'
  injection h' with _ h2 _
  exact hn h2
theorem OwnTRow.setMem {w : World} {B b n : Nat} {v : Value} {f : Tms} {cs : Array Value} (h : OwnTRow w B v n f) (hz : w.heap[b]? = some (.cells cs 54 (0, 0))) (x y z : Value) :
    OwnTRow (((w.setCell ⟨b, 0, none⟩ x).setCell ⟨b, 1, none⟩ y).setCell ⟨b, 2, none⟩ z) B v n f := by
  rcases h with h | ⟨g, cap, e, h⟩
  · exact .inl h
  · have hne : g ≠ b := by
      obtain ⟨_, _, _, cur, hh, _⟩ := h
      exact ne_of_type hh hz (by decide)
    exact .inr ⟨g, cap, e, h.block ((Below.heap_setCell _ ⟨b, 2, none⟩ z g hne).trans ((Below.heap_setCell _ ⟨b, 1, none⟩ y g hne).trans (Below.heap_setCell _ ⟨b, 0, none⟩ x g hne)))⟩
theorem OwnPIn.own {w : World} {B C m : Nat} {v : Value} {P : Pcs} (h : OwnPIn w B C v m P) : OwnPRow w B v m P := by
  rcases h with h | ⟨g, cap, V, e, h, _⟩
  · exact .inl h
  · exact .inr ⟨g, cap, V, e, h⟩
theorem OwnTIn.setM {w : World} {B C b n : Nat} {v : Value} {f : Tms} {cs : Array Value} (h : OwnTIn w B C v n f) (hz : w.heap[b]? = some (.cells cs 54 (0, 0))) (o : Nat) (x : Value) :
    OwnTIn (w.setCell ⟨b, o, none⟩ x) B C v n f := by
  rcases h with h | ⟨g, cap, e, h, hC⟩
  · exact .inl h
  · have hne : g ≠ b := by
      obtain ⟨_, _, _, cur, hh, _⟩ := h
      exact ne_of_type hh hz (by decide)
    exact .inr ⟨g, cap, e, h.block (Below.heap_setCell _ ⟨b, o, none⟩ x g hne), hC⟩
theorem OwnTRow.innAt {w : World} {B C n : Nat} {v : Value} {f : Tms} (h : OwnTRow w B v n f) (hC : C = w.heap.size) : OwnTIn w B C v n f := by
  subst hC
  rcases h with h | ⟨g, cap, e, h⟩
  · exact .inl h
  · exact .inr ⟨g, cap, e, h, h.lt⟩
theorem OwnTIn.own {w : World} {B C n : Nat} {v : Value} {f : Tms} (h : OwnTIn w B C v n f) : OwnTRow w B v n f := by
  rcases h with h | ⟨g, cap, e, h, _⟩
  · exact .inl h
  · exact .inr ⟨g, cap, e, h⟩
theorem OwnMem.setM {w : World} {B b : Nat} {tv pv : Value} {N : Me} {cs : Array Value} (h : OwnMem w B tv pv N) (hz : w.heap[b]? = some (.cells cs 54 (0, 0))) (o : Nat) (x : Value) : OwnMem (w.setCell ⟨b, o, none⟩ x) B tv pv N := by
  have s := (KeepsBut.refl [54] w).set hz (by decide) o x
  exact ⟨(h.inn.1.keeps s (by decide)).own, (h.inn.2.keeps s (by decide) (by decide)).own⟩
theorem OwnRow.block_ge {w : World} {B n : Nat} {v : Value} {f : Slots} (h : OwnRow w B v n f) : ∀ x, v.ownBlock = some x → B ≤ x := by
  intro x hx
  rcases h with ⟨_, rfl⟩ | ⟨g, cap, rfl, h⟩
  · simp [Value.ownBlock] at hx
  · simp [Value.ownBlock] at hx
    subst hx
    exact h.1
theorem block_set3 {w : World} {b : Nat} {x y z x' y' z' : Value} {t : TypeId} (h : w.heap[b]? = some (.cells #[x, y, z] t (0, 0))) :
    (((w.setCell ⟨b, 0, none⟩ x').setCell ⟨b, 1, none⟩ y').setCell ⟨b, 2, none⟩ z').heap[b]? = some (.cells #[x', y', z'] t (0, 0)) := block_setCell (i := 2) (block_setCell (i := 1) (block_setCell (i := 0) h x') y') z'

end Go.Proofs.Ytnmaljieaflnmaa
