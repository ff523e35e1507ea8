/-
  FnPlans: for every code the law returns true, and the code reads behind the call as it read before. No condition.
-/
import Derived.Test.YtihekcmcdcenaaaDraw2
import Derived.OpenShut
import Derived.ChangeOld
namespace Go.Proofs.Ytihekcmcdcenaaa
open Go.RowKit Go.Joins Go.ChangeShapes Go.WideShapes Go.ChangeAt
set_option linter.unusedVariables false

theorem afterI_bd (t d : Int) : afterI t d = -1 ∨ (0 ≤ afterI t d ∧ t ≤ afterI t d ∧ afterI t d ≤ 1000000000) := by
  unfold afterI
  split
  · have hb := inB_iff.1 ‹_›
    have := dl_bd d
    right
    split <;> omega
  · exact .inl rfl
theorem btrans' {W a b : World} (h1 : Below W.heap.size W a) (h2 : Below a.heap.size a b) (_ : W.heap.size ≤ a.heap.size) : Below W.heap.size W b := btrans h1 h2
theorem step_kb {W w wa : World} {b : Nat} (kb : Below (b + 1) W w) (ha : Below w.heap.size w wa) (hs : b < W.heap.size) : Below (b + 1) W wa := kb.trans (ha.mono (Nat.lt_of_lt_of_le hs kb.size))
theorem step_cell {W w wa : World} {b : Nat} (ha : Below w.heap.size w wa) (kb : Below (b + 1) W w) (hs : b < W.heap.size) (o : Nat) : wa.cell? ⟨b, o, none⟩ = w.cell? ⟨b, o, none⟩ :=
  ha.cell (p := ⟨b, o, none⟩) (Nat.lt_of_lt_of_le hs kb.size)
theorem b_block {W w : World} {B b : Nat} {o : Obj} (h : Below B W w) (hb : W.heap[b]? = some o) (hl : b < B) : w.heap[b]? = some o := (h.block b hl).trans hb

theorem CodeAt.below {w w' : World} {B len : Nat} {sl : Value} (h : CodeAt w B sl len) (hb : Below B w w') : CodeAt w' B sl len := by
  rcases h with h | ⟨b, off, cap, zs, h1, h2, h3, h4, h5⟩
  · exact .inl h
  · exact .inr ⟨b, off, cap, zs, h1, h2, Nat.le_trans h3 hb.size, fun k hk => (hb.cell (p := ⟨b, off + k, none⟩) h2).trans (h4 k hk), h5⟩

set_option maxHeartbeats 400000 in
theorem plans_big (sl : Value) (len : Nat) (w : World) (hsl : ∃ a cap, sl = .slice a len cap) (hm : len ≤ maxLen) (hlen : 4096 < len) :
    Calls Try.prog 3 #[sl] w fun e w' => e = .returned (.bool true) ∧ Below w.heap.size w w' := by
  unfold maxLen at hm
  obtain ⟨a, cap, rfl⟩ := hsl
  go_enter Try.func3, Try.ntmps3
  go_wp2_with (go_at_call 7; go_in)
  go_ret
  exact ⟨rfl, Below.refl _ _⟩

set_option maxHeartbeats 1000000 in
theorem plans_small {len : Nat} {sl : Value} {w : World} (hlen : len ≤ 4096) (hsl : ∃ a cap, sl = .slice a len cap) (hcode : CodeAt w w.heap.size sl len) :
    Calls Try.prog 3 #[sl] w fun e w' => e = .returned (.bool true) ∧ Below w.heap.size w w' := by
  obtain ⟨a0, cap, rfl⟩ := hsl
  go_enter Try.func3, Try.ntmps3
  go_wp2_with (go_at_call 7; go_in)
  go_at_call 8; refine (drawHomeOf_any hlen hcode (Nat.le_refl _)).mono ?_; rintro e w1 ⟨a, b, c, n, rfl, hb1⟩
  have hs1 := hb1.size
  have hb2 := hb1.alloc hs1 (.cells #[.int .i64 a, .int .i64 b, .int .i64 c] 25)
  have hP := heap_alloc_new w1 (.cells #[.int .i64 a, .int .i64 b, .int .i64 c] 25)
  have hs2 : w.heap.size ≤ (w1.alloc (.cells #[.int .i64 a, .int .i64 b, .int .i64 c] 25)).heap.size := hb2.size
  have hs2' : w1.heap.size < (w1.alloc (.cells #[.int .i64 a, .int .i64 b, .int .i64 c] 25)).heap.size := by simp
  have hcode2 := hcode.below hb2
  have hP' := Lib.hid hP
  clear hP
  go_wp2_with fail
  go_at_call 9; refine (drawAfter_any hlen hcode2 hs2).mono ?_; rintro e w3 ⟨t, d, rfl, hb3⟩
  have hP3 := Lib.hid (b_block hb3 hP'.out hs2')
  have hb4 := btrans' hb2 hb3 hs2
  have hs3 : w1.heap.size < w3.heap.size := Nat.lt_of_lt_of_le hs2' hb3.size
  clear hb2 hb3 hP' hs2 hs2' hcode2 hb1
  go_wp2_with fail
  go_at_call 10; refine (after_any _ _ _).mono ?_; rintro e w' ⟨rfl, rfl⟩
  obtain ⟨v0, v1, v2, _, _, _⟩ := three hP3.out
  go_wp2_with fail
  go_at_call 11; refine (homeOf_any _ _ _ _ _).mono ?_; rintro e w5 ⟨rfl, hb5⟩
  clear v0 v1 v2
  have hP5 := Lib.hid (b_block hb5 hP3.out hs3)
  have hb6 := btrans hb4 hb5
  have hs5 : w1.heap.size < w5.heap.size := Nat.lt_of_lt_of_le hs3 hb5.size
  clear hb4 hb5 hP3 hs3
  obtain ⟨v0, v1, v2, _, _, _⟩ := three hP5.out
  go_wp2_with fail
  have kb : Below (w1.heap.size + 1) w5 w5.drew := (Below.refl (w1.heap.size + 1) w5).drew
  replace v0 : w5.drew.cell? ⟨w1.heap.size, 0, none⟩ = some (.int .i64 a) := v0
  replace v1 : w5.drew.cell? ⟨w1.heap.size, 1, none⟩ = some (.int .i64 b) := v1
  replace v2 : w5.drew.cell? ⟨w1.heap.size, 2, none⟩ = some (.int .i64 c) := v2
  go_region_held3 (fun w' => w'.cell? ⟨w1.heap.size, 0, none⟩ = some (.int .i64 a) ∧ w'.cell? ⟨w1.heap.size, 1, none⟩ = some (.int .i64 b) ∧ w'.cell? ⟨w1.heap.size, 2, none⟩ = some (.int .i64 c))
    (first | exact ⟨v0, v1, v2⟩ | go_keep)
    (first
      | (go_at_call 12; refine (planOk_any _ _ _ _).mono ?_; rintro e wa ⟨rfl, ha⟩; replace v0 := (step_cell ha kb hs5 0).trans v0; replace v1 := (step_cell ha kb hs5 1).trans v1; replace v2 := (step_cell ha kb hs5 2).trans v2; replace kb := step_kb kb ha hs5; clear ha)
      | (go_at_call 13; refine (spPlanOk_any _ _ _ _).mono ?_; rintro e wa ⟨rfl, ha⟩; replace v0 := (step_cell ha kb hs5 0).trans v0; replace v1 := (step_cell ha kb hs5 1).trans v1; replace v2 := (step_cell ha kb hs5 2).trans v2; replace kb := step_kb kb ha hs5; clear ha)
      | (go_at_call 14; refine (spHomeOf_any _ _ _ _ _).mono ?_; rintro e wa ⟨rfl, ha⟩; replace v0 := (step_cell ha kb hs5 0).trans v0; replace v1 := (step_cell ha kb hs5 1).trans v1; replace v2 := (step_cell ha kb hs5 2).trans v2; replace kb := step_kb kb ha hs5; clear ha)
      | (go_at_call 15; refine (spAfter_any _ _ _).mono ?_; rintro e w' ⟨rfl, rfl⟩))
  have hbA := hb6.trans (kb.mono (Nat.le_succ_of_le hs1))
  have hsA := hbA.size
  have hcodeA := hcode.below hbA
  clear hb6 kb hs5 hP5 v0 v1 v2 hs1 hcode
  have hv := afterI_bd t d
  generalize afterI t d = v at hv ⊢
  generalize homeI a b c n = hm
  rcases hv with rfl | ⟨hv0, hv1, hv2⟩
  all_goals
    go_wp2_with fail
    go_at_call 17; refine (roll_any 2 (by omega) (by omega) wa.heap.size rfl hlen hcodeA hsA).mono ?_; rintro e w7 ⟨rfl, hD, hb7⟩
    have hb8 := btrans hbA hb7
    clear hbA hb7 hcodeA
    go_wp2_with fail
    go_at_call 16; refine (scheme_any hD).mono ?_; rintro e w8 ⟨qa, qb, qc, ⟨a1, a2⟩, ⟨b1, b2⟩, ⟨c1, c2⟩, rfl, hD8, hg8⟩
    have hb9 := hb8.trans (b_grown hg8 hsA hb8.size)
    clear hb8 hg8 hD hD8
    have hs8 := hb9.size
    have hQ := Lib.hid (heap_alloc_new w8 (.cells #[.int .i64 qa, .int .i64 qb, .int .i64 qc] 25))
    have hbQ := hb9.alloc hs8 (.cells #[.int .i64 qa, .int .i64 qb, .int .i64 qc] 25)
    go_wp2_with fail
    go_loopw [10] (fun i wr => ∃ k : Nat, (k : Int) ≤ qb ∧ i = .int .i64 k ∧ Hid (wr.heap[w8.heap.size]? = some (.cells #[.int .i64 qa, .int .i64 qb, .int .i64 qc] 25 (0, 0))) ∧ Below w.heap.size w wr) (fun i _ => (qb - intOf i).toNat)
    case atStart => exact ⟨0, by omega, rfl, hQ, hbQ⟩
    case round =>
      obtain ⟨k, hk, rfl, hQk, hbk⟩ := hrel
      have hsQ := lt_of_block hQk.out
      have hs8' : w.heap.size < w8.heap.size + 1 := by omega
      obtain ⟨v0, v1, v2, _, _, _⟩ := three hQk.out
      by_cases hlt : (k : Int) < qb
      · have hwk : workB qa qb qc k = true := workB_iff.2 ⟨planB_iff.2 ⟨by omega, by omega, by omega⟩, by omega, by omega⟩
        have hh : ∀ W, Calls Try.prog 11 #[.agg #[.int .i64 qa, .int .i64 qb, .int .i64 qc], .int .i64 k] W fun e w' => e = .returned (.int .i64 (k % qa)) ∧ Below W.heap.size W w' := by
          intro W
          have := homeOf_any qa qb qc k W
          rw [show homeI qa qb qc k = k % qa by simp [homeI, hwk]] at this
          exact this
        have hH := Lib.hid hh
        have hq0 : (qa == 0) = false := by rw [beq_eq_false_iff_ne]; omega
        have hq1 : ¬ qa = 0 := by omega
        have hk0 : (0 : Int) ≤ k := by omega
        have htm : (k : Int).tmod qa = (k : Int) % qa := Int.tmod_eq_emod_of_nonneg hk0
        clear hh hwk
        go_wp2
        have kb : Below (w8.heap.size + 1) wr wr.drew := (Below.refl (w8.heap.size + 1) wr).drew
        replace v0 : wr.drew.cell? ⟨w8.heap.size, 0, none⟩ = some (.int .i64 qa) := v0
        replace v1 : wr.drew.cell? ⟨w8.heap.size, 1, none⟩ = some (.int .i64 qb) := v1
        replace v2 : wr.drew.cell? ⟨w8.heap.size, 2, none⟩ = some (.int .i64 qc) := v2
        go_region_held3 (fun w' => w'.cell? ⟨w8.heap.size, 0, none⟩ = some (.int .i64 qa) ∧ w'.cell? ⟨w8.heap.size, 1, none⟩ = some (.int .i64 qb) ∧ w'.cell? ⟨w8.heap.size, 2, none⟩ = some (.int .i64 qc))
          (first | exact ⟨v0, v1, v2⟩ | go_keep)
          (first
            | (go_at_call 11; refine (hH.out _).mono ?_; rintro e wb ⟨rfl, ha⟩; replace v0 := (step_cell ha kb hsQ 0).trans v0; replace v1 := (step_cell ha kb hsQ 1).trans v1; replace v2 := (step_cell ha kb hsQ 2).trans v2; replace kb := step_kb kb ha hsQ; clear ha))
        have hQ2 := Lib.hid (b_block kb hQk.out (Nat.lt_succ_self _))
        have hb2 := hbk.trans (kb.mono (Nat.le_of_lt hs8'))
        clear kb v0 v1 v2 hQk hbk
        go_wp2
        exact ⟨⟨k + 1, by omega, by go_num, hQ2, hb2⟩, by simp [intOf]; omega⟩
      · have hkb : (k : Int) = qb := by omega
        have hwk : workB qa qb qc qb = false := by
          cases h : workB qa qb qc qb
          · rfl
          · have := workB_iff.1 h; omega
        have hh : ∀ W, Calls Try.prog 11 #[.agg #[.int .i64 qa, .int .i64 qb, .int .i64 qc], .int .i64 qb] W fun e w' => e = .returned (.int .i64 (-1)) ∧ Below W.heap.size W w' := by
          intro W
          have := homeOf_any qa qb qc qb W
          rw [show homeI qa qb qc qb = -1 by simp [homeI, hwk]] at this
          exact this
        have hH := Lib.hid hh
        have e7 := Lib.hid (show afterI 5 7 = 12 by decide)
        have en := Lib.hid (show afterI 5 (-7) = 5 by decide)
        clear hh hwk hkb
        go_wp2_with (first
          | (go_at_call 11; refine (hH.out _).mono ?_; rintro e wb ⟨rfl, ha⟩)
          | (go_at_call 10; refine (after_any _ _ _).mono ?_; rintro e w' ⟨rfl, rfl⟩; first | rw [e7.out] | rw [en.out]))
        go_ret
        exact ⟨rfl, btrans hbk ha⟩

/-- for every code the law returns true -/
theorem plans_walk (sl : Value) (len : Nat) (w : World) (hm : len ≤ maxLen) (hsl : ∃ a cap, sl = .slice a len cap) (hcode : CodeAt w w.heap.size sl len) :
    Calls Try.prog 3 #[sl] w fun e w' => e = .returned (.bool true) ∧ Below w.heap.size w w' := by
  by_cases h : len ≤ 4096
  · exact plans_small h hsl hcode
  · exact plans_big sl len w hsl hm (by omega)

/-! ### The row -/
theorem laidOut : laidOutB Try.prog = true := by kernel_rfl

/-- a code that came in, as data: what the walk is told of it -/
theorem code_in {H : Type} {enc : TypeId × Value → H} {W : World} {base : Nat} {v : Value} {d : DataW H} {p : List MemPlace}
    (hv : Value.okWide Try.prog W .any base 22 v) (h : DataW.Trod enc Try.prog W 0 (fun _ => true) true 22 v d p) :
    ∃ (a : Option Addr) (len cap : Nat), v = .slice a len cap ∧ len ≤ maxLen ∧ CodeAt W W.heap.size v len := by
  obtain ⟨a, len, cap, rfl⟩ := okWide_slice Try.underlying22 hv
  obtain ⟨fuel, hf⟩ := h
  rcases open_ints Try.underlying22 Try.underlying5 (by kernel_rfl) hf with ⟨hcs, _⟩ | ⟨x, l, c, zs, hcs, _, hl, hm, hz, _, hcell, hwz⟩
  · simp [Value.cells] at hcs
    obtain ⟨rfl, rfl, rfl⟩ := hcs
    exact ⟨_, _, _, rfl, Nat.zero_le _, .inl ⟨rfl, _, _, rfl⟩⟩
  · simp [Value.cells] at hcs
    obtain ⟨rfl, rfl, rfl⟩ := hcs
    refine ⟨_, _, _, rfl, Nat.le_trans hl hm, ?_⟩
    rcases Nat.eq_zero_or_pos len with rfl | hp
    · exact .inl ⟨rfl, _, _, rfl⟩
    · have hzl : zs.length = cap := by simpa using hz
      obtain ⟨b, off, rfl, hc⟩ := ints_at hcell (by omega)
      have hb : b < W.heap.size := World.block_lt_of_cell? W _ (hc 0 (by omega))
      refine .inr ⟨b, off, cap, zs, rfl, hb, Nat.le_refl _, fun k hk => hc k (by omega), fun k => ?_⟩
      rw [List.getD_eq_getElem?_getD]
      cases hg : zs[k]? with
      | none => simp
      | some z =>
        have hw := hwz z (List.mem_of_getElem? hg)
        have := bounds_u8 hw
        simpa using this

set_option maxRecDepth 100000 in
theorem plans_lifted (os : Os) (started : os.Started) (H : Type) (enc : TypeId × Value → H) :
    ReturnsInHanded {} Try.checked os 3 .any (Rows.fnPlansSpec.pre6 enc Try.prog Try.f3 Rows.fnPlansRow.domain false) (Rows.fnPlansSpec.post enc Try.prog Try.f3 false true false false) := by
  refine returnsInHanded_of_change (C := Try.checked) own started (by kernel_rfl) Try.func3
    (ChangeSpec.witness6 (enc := enc) (C := Try.checked) false ⟨#[], #[.slice none 0 0], []⟩ 8 (by kernel_rfl) (by kernel_rfl) (by kernel_rfl) (by kernel_rfl)) ?_
  intro W base args ds gs before hval0 hW _ _
  have hval : ∀ (j : Nat) t v, Try.f3.params[j]? = some t → args[j]? = some v → Value.okWide Try.prog W .any base t v := hval0
  have hW' := hW
  obtain ⟨p, q, hA0, hV, rfl, _, _⟩ := hW
  have hA : DataW.TrodAll enc Try.prog W 0 (fun _ => true) true Try.f3.params.toList args.toList ds p := hA0
  rw [Try.params3] at hA hval
  obtain ⟨v0, d0, rfl, rfl, h0⟩ := trodAll_one hA
  obtain ⟨rfl, rfl⟩ := trodVars_none hV
  have lt0 : ∀ x ∈ p, x.block < W.heap.size := by obtain ⟨m, hm⟩ := h0; exact DataW.trod_lt m _ _ _ hm
  obtain ⟨a, len, cap, hsl, hm, hcode⟩ := code_in (hval 0 22 v0 rfl rfl) h0
  clear hA0 hval0
  refine (plans_walk v0 len W hm ⟨a, cap, hsl⟩ hcode).mono fun e W' ⟨he, hb⟩ => ?_
  subst he
  exact ⟨_, rfl, _, _, _, [], _, [], hW', trodAll_mk1 (shut_bool Try.underlying4 _), trodAll_mk1 (Below.trod laidOut (by kernel_rfl) (of_decide_eq_true (by kernel_rfl)) h0 hb lt0), rfl, hb.frame _, fun h => by cases h⟩

theorem plans_holds : Rows.FnPlansSaid :=
  OpenClaim.holds_of_wide 3 Try.f3 rfl rfl rfl rfl rfl rfl rfl ⟨rfl, rfl, rfl, rfl, rfl⟩ rfl rfl rfl rfl rfl (by kernel_rfl) Try.func3 (by kernel_rfl)
    (of_decide_eq_true (by kernel_rfl)) (by unfold Func.isWrapper; rw [if_neg (of_decide_eq_false (by kernel_rfl))]; exact ⟨rfl, rfl⟩)
    (fun os started H enc _ => plans_lifted os started H enc)

#print axioms plans_holds

end Go.Proofs.Ytihekcmcdcenaaa
