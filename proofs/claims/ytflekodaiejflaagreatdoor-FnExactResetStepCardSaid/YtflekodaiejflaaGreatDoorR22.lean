/-
  FnExactResetStep, told what the program answers, where its errors lie as the row lists them.
-/
import Derived.Test.YtflekodaiejflaaGreatDoorR11
import Derived.Test.YtflekodaiejflaaGreatDoorR21
import Derived.Test.YtflekodaiejflaaGreatDoorR20
import Derived.BigFrame
import Derived.Test.YtflekodaiejflaaGreatDoorCards
import Derived.Test.YtflekodaiejflaaGreatDoorTie
import Derived.ChangeVars
import Derived.OpenVars
import Derived.SevenTiedAt
import Derived.Test.YtflekodaiejflaaGreatDoorR14
import Derived.Test.YtflekodaiejflaaGreatDoorR09
namespace Go.Proofs.YtflekodaiejflaaGreatDoor
open Go.Deep Go.ChangeShapes Go.WideShapes Go.ChangeAt Go.RowKit Go.Joins
set_option linter.unusedVariables false
set_option linter.unusedSimpArgs false

/-- what a function of a plan, a memory, a number and a hand answers: what comes of a step, and a flag -/
def AsksResetStep (g : Int → Int → Int → Int → Me → Hd → Dn) (gq : Int → Int → Int → Int → Me → Hd → Bool) (fn : FuncId) : Prop := ∀ (a b c d : Int) (h : Hd) (tv pv : Value) (M : Me) (w : World), sizeM M ≤ 1048576 → MemAt w tv pv M → Calls Tryz.prog fn #[.agg #[.int .i64 a, .int .i64 b, .int .i64 c], meV M.c tv pv, .int .i64 d, hdV h] w (NewDn (g a b c d M h) (gq a b c d M h) w)
/-- .. where its errors lie -/
def AsksEResetStep (g : Int → Int → Int → Int → Me → Hd → Dn) (gq : Int → Int → Int → Int → Me → Hd → Bool) (fn : FuncId) : Prop := ∀ (a b c d : Int) (h : Hd) (tv pv : Value) (M : Me) (w : World) (eb es en : Addr), sizeM M ≤ 1048576 → ErrsLo w eb es en → MemAt w tv pv M → Calls Tryz.prog fn #[.agg #[.int .i64 a, .int .i64 b, .int .i64 c], meV M.c tv pv, .int .i64 d, hdV h] w (NewDn (g a b c d M h) (gq a b c d M h) w)

set_option maxRecDepth 100000 in
theorem exactResetStep_lifted {g : Int → Int → Int → Int → Me → Hd → Dn} {gq : Int → Int → Int → Int → Me → Hd → Bool} (hz : ∀ (a b c d : Int) (M : Me) (h : Hd), sizeM M ≤ 1048576 → sizeM (g a b c d M h).m ≤ 1048576) (hSp : AsksResetStep g gq 16) (hI : AsksEResetStep g gq 17) (os : Os) (started : os.Started) (H : Type) (enc : TypeId × Value → H) :
    ReturnsInHanded {} Tryz.checked os 4 .any (fun w args => (Rows.fnExactResetStepSpec.pre enc Tryz.prog Tryz.f4 [] false w args ∧ laidMetH Tryz.prog laidL w) ∧ sizedMet enc Tryz.prog Tryz.f4 (OpenSpec.ofChange Rows.fnExactResetStepSpec) false w args)
      (Rows.fnExactResetStepSpec.post enc Tryz.prog Tryz.f4 false true false false) := by
  refine returnsInHanded_of_change_and (C := Tryz.checked) (X := fun w _ => laidMetH Tryz.prog laidL w) (fun _ _ _ hh h => h.of_heap hh) own started (by kernel_rfl) Tryz.func4
    (ChangeSpec.witness_shaped (enc := enc) (C := Tryz.checked) (os := os) (X := fun w _ => laidMetH Tryz.prog laidL w) false (World.doorLaid Tryz.prog 73 os) #[.agg #[.int .i64 0, .int .i64 0, .int .i64 0], .agg #[.int .i64 0, .slice none 0 0, .slice none 0 0], .int .i64 0, .agg #[.int .i64 0, .int .i64 0, .int .i64 0, .int .i64 0, .int .i64 0, .int .i64 0, .int .i64 0, .bool false, .int .i64 0, .int .i64 0, .int .i64 0, .int .i64 0]] 8 rfl (World.shaped_of_RefB (by kernel_rfl) (by kernel_rfl)) (by kernel_rfl) (by kernel_rfl) (by kernel_rfl) (door_metL os _)) ?_
  intro W base args ds gs before hval0 hW _ _ hL _
  have hval : ∀ (j : Nat) t v, Tryz.f4.params[j]? = some t → args[j]? = some v → Value.okWide Tryz.prog W .any base t v := hval0
  have hW' := hW
  obtain ⟨p, q, hA0, hV, rfl, hfz, hnd⟩ := hW
  have hA : DataW.TrodAll enc Tryz.prog W 0 (fun _ => true) true Tryz.f4.params.toList args.toList ds p := hA0
  have hV' : DataW.TrodVars enc Tryz.prog W (fun _ => true) ["loop.example/g00743/impl.errSilent", "loop.example/g00743/impl.errBusy", "loop.example/g00743/impl.errAbsent"] gs q := hV
  obtain ⟨g1, g2, g3, rfl⟩ : ∃ g1 g2 g3, gs = [g1, g2, g3] := by
    match gs, hV' with
    | [g1, g2, g3], _ => exact ⟨g1, g2, g3, rfl⟩
    | [], hv => exact hv.elim
    | [_], ⟨_, _, _, _, _, _, _, _, _, _, hv, _⟩ => exact hv.elim
    | [_, _], ⟨_, _, _, _, _, _, _, _, _, _, ⟨_, _, _, _, _, _, _, _, _, _, hv, _⟩, _⟩ => exact hv.elim
    | _ :: _ :: _ :: _ :: _, ⟨_, _, _, _, _, _, _, _, _, _, ⟨_, _, _, _, _, _, _, _, _, _, ⟨_, _, _, _, _, _, _, _, _, _, hv, _⟩, _⟩, _⟩ => exact hv.elim
  rw [Tryz.params4] at hA hval
  obtain ⟨v0, v1, v2, v3, d0, d1, d2, d3, p0, p1, p2, p3, rfl, rfl, rfl, h0, h1, h2, h3⟩ := trodAll_four hA
  have lt0 : ∀ x ∈ p0, x.block < W.heap.size := by obtain ⟨m, hm⟩ := h0; exact DataW.trod_lt m _ _ _ hm
  have lt1 : ∀ x ∈ p1, x.block < W.heap.size := by obtain ⟨m, hm⟩ := h1; exact DataW.trod_lt m _ _ _ hm
  have lt2 : ∀ x ∈ p2, x.block < W.heap.size := by obtain ⟨m, hm⟩ := h2; exact DataW.trod_lt m _ _ _ hm
  have lt3 : ∀ x ∈ p3, x.block < W.heap.size := by obtain ⟨m, hm⟩ := h3; exact DataW.trod_lt m _ _ _ hm
  obtain ⟨a, b, c, rfl⟩ := plan_inM (hval 0 23 v0 rfl rfl) h0
  obtain ⟨tv, pv, M, rfl, htn, hpn, hns, hM⟩ := mem_in (hval 1 27 v1 rfl rfl) h1
  obtain ⟨d, rfl, _, _⟩ := open_int Tryz.underlying2 (hval 2 2 v2 rfl rfl) h2
  obtain ⟨h, rfl, _, _, _⟩ := open_hand (hval 3 31 v3 rfl rfl) h3
  obtain ⟨eb, es, en, hE⟩ := errs_of_laidL hL
  clear hA0 hval0
  have key : Calls Tryz.prog 4 #[.agg #[.int .i64 a, .int .i64 b, .int .i64 c], meV M.c tv pv, .int .i64 d, hdV h] W fun x w' => x = .returned (.bool true) ∧ Below W.heap.size W w' := by
    by_cases hs : sizeM M ≤ 1048576
    · exact reset_small a b c d h hs (hz a b c d M h hs) (Lib.hid (fun tv pv w hm => hSp a b c d h tv pv M w hs hm)) (Lib.hid (fun tv pv w hE hm => hI a b c d h tv pv M w eb es en hs hE hm)) hE hM
    · exact reset_big a b c d h htn hpn hns hs hM
  refine key.mono fun x W' ⟨he, hb⟩ => ?_
  subst he
  refine ⟨_, rfl, _, _, _, [], _, q, hW', trodAll_mk1 (shut_bool Tryz.underlying4 _), trodAll_mk4 (Below.trod laidOut (by kernel_rfl) (of_decide_eq_true (by kernel_rfl)) h0 hb lt0) (Below.trod laidOut (by kernel_rfl) (of_decide_eq_true (by kernel_rfl)) h1 hb lt1) (Below.trod laidOut (by kernel_rfl) (of_decide_eq_true (by kernel_rfl)) h2 hb lt2) (Below.trod laidOut (by kernel_rfl) (of_decide_eq_true (by kernel_rfl)) h3 hb lt3), hb.trodVars laidOutE (by kernel_rfl) hV', hb.frame _, fun h => by cases h⟩

theorem exactResetStep_row {g : Int → Int → Int → Int → Me → Hd → Dn} {gq : Int → Int → Int → Int → Me → Hd → Bool} (hz : ∀ (a b c d : Int) (M : Me) (h : Hd), sizeM M ≤ 1048576 → sizeM (g a b c d M h).m ≤ 1048576) (hSp : AsksResetStep g gq 16) (hI : AsksEResetStep g gq 17) : Rows.FnExactResetStepSaid :=
  OpenClaim.holds_of_wide 4 Tryz.f4 rfl rfl rfl rfl rfl rfl rfl ⟨rfl, rfl, rfl, rfl, rfl⟩ rfl rfl rfl rfl rfl (by kernel_rfl) Tryz.func4 (by kernel_rfl)
    (of_decide_eq_true (by kernel_rfl)) (by unfold Func.isWrapper; rw [if_neg (of_decide_eq_false (by kernel_rfl))]; exact ⟨rfl, rfl⟩)
    (fun os started H enc _ => exactResetStep_lifted hz hSp hI os started H enc)

/-- the card: the row, with the errors tied to the program's text -/
theorem exactResetStep_card {g : Int → Int → Int → Int → Me → Hd → Dn} {gq : Int → Int → Int → Int → Me → Hd → Bool} (hz : ∀ (a b c d : Int) (M : Me) (h : Hd), sizeM M ≤ 1048576 → sizeM (g a b c d M h).m ≤ 1048576) (hSp : AsksResetStep g gq 16) (hI : AsksEResetStep g gq 17) : Rows.FnExactResetStepCardSaid :=
  Claim7.holds_tied_plain_at .later [] [.sentinel, .sentinel, .sentinel] true (true, "051d4ff84fbb2d8055bbc33620bebf64daa7125b9080240c8a2248506a1ce6da") true
    (exactResetStep_row hz hSp hI) (fun _ h => by cases h) (by kernel_rfl) (fun _ h => by cases h) fnExactResetStep_row_tie rfl ⟨rfl, rfl⟩ (by kernel_rfl) rfl
    (fun f fn hf hfn => by
      obtain rfl : f = 4 := Option.some.inj ((show Tryz.prog.funcNamed "loop.example/g00743/laws.FnExactResetStep" = some 4 by kernel_rfl).symm.trans hf) |>.symm
      obtain rfl : fn = Tryz.f4 := (Option.some.inj (Tryz.func4.symm.trans hfn)).symm
      exact ⟨by kernel_rfl, fun j t ht => by
        rw [Tryz.params4] at ht
        have hm : t ∈ [23, 27, 2, 31] := by simpa using Array.mem_of_getElem? ht
        have hall : ([23, 27, 2, 31].all fun u => !Tryz.prog.wantsStandIn u) = true := by kernel_rfl
        exact (show Tryz.prog.wantsStandIn t = false by simpa using List.all_eq_true.1 hall t hm)⟩)
    (by kernel_rfl)

end Go.Proofs.YtflekodaiejflaaGreatDoor
