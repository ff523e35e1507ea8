/-
  Is a step fit (spec, chapter 9).
-/
import Derived.Test.YtflekodaiejflaaGreatDoorR10
import Derived.Test.YtflekodaiejflaaGreatDoorR09
import Derived.Test.YtflekodaiejflaaGreatDoorR07
import Derived.Deep.QuietTactic
import Derived.BigQuiet
import Derived.Deep.DeepCutAuto
import Derived.Test.YtflekodaiejflaaGreatDoorR11
import Derived.Test.YtflekodaiejflaaGreatDoorR00
import Derived.StillTailTactics
import Derived.OrdersHeld
import Derived.Test.YtflekodaiejflaaGreatDoorR04
import Derived.Deep.RegionHeld
import Derived.Test.YtflekodaiejflaaGreatDoorR05
import Derived.Deep.RegionLaw
import Derived.IntWalk
import Derived.Deep.RegionHeld3
import Derived.WalkKit
import Derived.LaidEql
import Derived.Stop.Asserts
import Derived.RowKitTokens
namespace Go.Proofs.YtflekodaiejflaaGreatDoor
open Go.Deep Go.ChangeShapes Go.WideShapes Go.ChangeAt Go.RowKit Go.Joins
set_option linter.unusedVariables false
set_option linter.unusedSimpArgs false

set_option maxRecDepth 100000 in
set_option maxHeartbeats 8000000 in
theorem spFit_any (a b c d : Int) (h : Hd) {tv pv : Value} {M : Me} {w : World} (hs : sizeM M ≤ 1048576) (hm : MemAt w tv pv M) :
    Calls Tryz.prog 38 #[.agg #[.int .i64 a, .int .i64 b, .int .i64 c], meV M.c tv pv, .int .i64 d, hdV h] w fun e w' => e = .returned (.bool (stepFit a b c d M h)) ∧ Below w.heap.size w w' := by
  obtain ⟨va, vc, qa, qc, rfl, rfl⟩ := hm.form
  have hn := (sizeM_le hs).1
  have k0 := ((((Below.refl w.heap.size w).alloc (Nat.le_refl _) (.cells #[.int .i64 a, .int .i64 b, .int .i64 c] 46)).alloc (by simp) (.cells #[.int .i64 M.c, .slice va M.tn vc, .slice qa M.pn qc] 36)).alloc (by simp; omega) (.cells #[.int .i64 h.pos, .int .i64 h.call.code, .int .i64 h.call.a, .int .i64 h.call.b, .int .i64 h.call.c, .int .i64 h.tim, .int .i64 h.whe, .bool h.had, .int .i64 h.cnt, .int .i64 h.beg, .int .i64 h.rep, .int .i64 h.out] 39))
  have kk := Below.refl (((w.alloc (.cells #[.int .i64 a, .int .i64 b, .int .i64 c] 46)).alloc (.cells #[.int .i64 M.c, .slice va M.tn vc, .slice qa M.pn qc] 36)).alloc (.cells #[.int .i64 h.pos, .int .i64 h.call.code, .int .i64 h.call.a, .int .i64 h.call.b, .int .i64 h.call.c, .int .i64 h.tim, .int .i64 h.whe, .bool h.had, .int .i64 h.cnt, .int .i64 h.beg, .int .i64 h.rep, .int .i64 h.out] 39)).heap.size (((w.alloc (.cells #[.int .i64 a, .int .i64 b, .int .i64 c] 46)).alloc (.cells #[.int .i64 M.c, .slice va M.tn vc, .slice qa M.pn qc] 36)).alloc (.cells #[.int .i64 h.pos, .int .i64 h.call.code, .int .i64 h.call.a, .int .i64 h.call.b, .int .i64 h.call.c, .int .i64 h.tim, .int .i64 h.whe, .bool h.had, .int .i64 h.cnt, .int .i64 h.beg, .int .i64 h.rep, .int .i64 h.out] 39))
  have HM := Lib.hid (fun (w' : World) (hb : Below w.heap.size w w') => hm.below hb)
  clear hm
  cases h1 : memOkB a b c M
  · skip
    go_enter Tryz.func38, Tryz.ntmps38
    go_wp2_with (first
      | (go_at_call 63; refine (spMemOk_any _ _ _ hs (HM.out _ (k0.trans (kk.mono k0.size)))).mono ?_; rintro e w1 ⟨rfl, hb⟩; replace kk := kk.trans (hb.mono kk.size); clear hb; (try clear hc hf); obtain ⟨hc, hf⟩ := bcell kk)
      | (go_at_call 64; refine (spHandOk_any _ _ _ _ _).mono ?_; rintro e w1 ⟨rfl, hb⟩; replace kk := kk.trans (hb.mono kk.size); clear hb; (try clear hc hf); obtain ⟨hc, hf⟩ := bcell kk)
      | (go_at_call 65; refine (l1Worker_any _ _ _ _ _).mono ?_; rintro e w1 ⟨rfl, hb⟩; replace kk := kk.trans (hb.mono kk.size); clear hb; (try clear hc hf); obtain ⟨hc, hf⟩ := bcell kk)
      | (go_at_call 66; refine (l5Has_any ⟨_, _, rfl⟩ hn _ _).mono ?_; rintro e w1 ⟨rfl, hb⟩; replace kk := kk.trans (hb.mono kk.size); clear hb; (try clear hc hf); obtain ⟨hc, hf⟩ := bcell kk))
    go_ret
    exact ⟨ret_bool' (by simp [stepFit, h1]), k0.trans (kk.mono k0.size)⟩
  cases h2 : handB a b c h
  · skip
    go_enter Tryz.func38, Tryz.ntmps38
    go_wp2_with (first
      | (go_at_call 63; refine (spMemOk_any _ _ _ hs (HM.out _ (k0.trans (kk.mono k0.size)))).mono ?_; rintro e w1 ⟨rfl, hb⟩; replace kk := kk.trans (hb.mono kk.size); clear hb; (try clear hc hf); obtain ⟨hc, hf⟩ := bcell kk)
      | (go_at_call 64; refine (spHandOk_any _ _ _ _ _).mono ?_; rintro e w1 ⟨rfl, hb⟩; replace kk := kk.trans (hb.mono kk.size); clear hb; (try clear hc hf); obtain ⟨hc, hf⟩ := bcell kk)
      | (go_at_call 65; refine (l1Worker_any _ _ _ _ _).mono ?_; rintro e w1 ⟨rfl, hb⟩; replace kk := kk.trans (hb.mono kk.size); clear hb; (try clear hc hf); obtain ⟨hc, hf⟩ := bcell kk)
      | (go_at_call 66; refine (l5Has_any ⟨_, _, rfl⟩ hn _ _).mono ?_; rintro e w1 ⟨rfl, hb⟩; replace kk := kk.trans (hb.mono kk.size); clear hb; (try clear hc hf); obtain ⟨hc, hf⟩ := bcell kk))
    go_ret
    exact ⟨ret_bool' (by simp [stepFit, h1, h2]), k0.trans (kk.mono k0.size)⟩
  cases h3 : workB a b c d
  · skip
    go_enter Tryz.func38, Tryz.ntmps38
    go_wp2_with (first
      | (go_at_call 63; refine (spMemOk_any _ _ _ hs (HM.out _ (k0.trans (kk.mono k0.size)))).mono ?_; rintro e w1 ⟨rfl, hb⟩; replace kk := kk.trans (hb.mono kk.size); clear hb; (try clear hc hf); obtain ⟨hc, hf⟩ := bcell kk)
      | (go_at_call 64; refine (spHandOk_any _ _ _ _ _).mono ?_; rintro e w1 ⟨rfl, hb⟩; replace kk := kk.trans (hb.mono kk.size); clear hb; (try clear hc hf); obtain ⟨hc, hf⟩ := bcell kk)
      | (go_at_call 65; refine (l1Worker_any _ _ _ _ _).mono ?_; rintro e w1 ⟨rfl, hb⟩; replace kk := kk.trans (hb.mono kk.size); clear hb; (try clear hc hf); obtain ⟨hc, hf⟩ := bcell kk)
      | (go_at_call 66; refine (l5Has_any ⟨_, _, rfl⟩ hn _ _).mono ?_; rintro e w1 ⟨rfl, hb⟩; replace kk := kk.trans (hb.mono kk.size); clear hb; (try clear hc hf); obtain ⟨hc, hf⟩ := bcell kk))
    go_ret
    exact ⟨ret_bool' (by simp [stepFit, h1, h2, h3]), k0.trans (kk.mono k0.size)⟩
  by_cases h4 : h.tim = -1
  case pos =>
    have h4b : (h.tim == -1) = true := by simpa using h4
    have H4 := Lib.hid h4
    clear h4
    go_enter Tryz.func38, Tryz.ntmps38
    go_wp2_with (first
      | (go_at_call 63; refine (spMemOk_any _ _ _ hs (HM.out _ (k0.trans (kk.mono k0.size)))).mono ?_; rintro e w1 ⟨rfl, hb⟩; replace kk := kk.trans (hb.mono kk.size); clear hb; (try clear hc hf); obtain ⟨hc, hf⟩ := bcell kk)
      | (go_at_call 64; refine (spHandOk_any _ _ _ _ _).mono ?_; rintro e w1 ⟨rfl, hb⟩; replace kk := kk.trans (hb.mono kk.size); clear hb; (try clear hc hf); obtain ⟨hc, hf⟩ := bcell kk)
      | (go_at_call 65; refine (l1Worker_any _ _ _ _ _).mono ?_; rintro e w1 ⟨rfl, hb⟩; replace kk := kk.trans (hb.mono kk.size); clear hb; (try clear hc hf); obtain ⟨hc, hf⟩ := bcell kk)
      | (go_at_call 66; refine (l5Has_any ⟨_, _, rfl⟩ hn _ _).mono ?_; rintro e w1 ⟨rfl, hb⟩; replace kk := kk.trans (hb.mono kk.size); clear hb; (try clear hc hf); obtain ⟨hc, hf⟩ := bcell kk))
    go_ret
    exact ⟨ret_bool' (by simp [stepFit, h1, h2, h3, H4.out]), k0.trans (kk.mono k0.size)⟩
  have h4b : (h.tim == -1) = false := by simpa using h4
  go_enter Tryz.func38, Tryz.ntmps38
  go_wp2_with (first
    | (go_at_call 63; refine (spMemOk_any _ _ _ hs (HM.out _ (k0.trans (kk.mono k0.size)))).mono ?_; rintro e w1 ⟨rfl, hb⟩; replace kk := kk.trans (hb.mono kk.size); clear hb; (try clear hc hf); obtain ⟨hc, hf⟩ := bcell kk)
    | (go_at_call 64; refine (spHandOk_any _ _ _ _ _).mono ?_; rintro e w1 ⟨rfl, hb⟩; replace kk := kk.trans (hb.mono kk.size); clear hb; (try clear hc hf); obtain ⟨hc, hf⟩ := bcell kk)
    | (go_at_call 65; refine (l1Worker_any _ _ _ _ _).mono ?_; rintro e w1 ⟨rfl, hb⟩; replace kk := kk.trans (hb.mono kk.size); clear hb; (try clear hc hf); obtain ⟨hc, hf⟩ := bcell kk)
    | (go_at_call 66; refine (l5Has_any ⟨_, _, rfl⟩ hn _ _).mono ?_; rintro e w1 ⟨rfl, hb⟩; replace kk := kk.trans (hb.mono kk.size); clear hb; (try clear hc hf); obtain ⟨hc, hf⟩ := bcell kk))
  go_ret
  exact ⟨ret_bool' (by simp [stepFit, h1, h2, h3, h4]), k0.trans (kk.mono k0.size)⟩

end Go.Proofs.YtflekodaiejflaaGreatDoor

/-
  What is told of a timer; is a step fit (spec, chapter 9).
-/
namespace Go.Proofs.YtflekodaiejflaaGreatDoor
open Go.Deep Go.ChangeShapes Go.WideShapes Go.ChangeAt Go.RowKit Go.Joins
set_option linter.unusedVariables false
set_option linter.unusedSimpArgs false

set_option maxRecDepth 100000 in
set_option maxHeartbeats 8000000 in
theorem l9Ev_any {B t : Nat} {tv pv : Value} {M : Me} {w : World} (kind when : Int) (ht : t < M.tn) (hm : OwnMem w B tv pv M) :
    Calls Tryz.prog 59 #[meV M.c tv pv, .int .i64 kind, .int .i64 (t : Int), .int .i64 when] w fun e w' => e = .returned (etV (evI M kind t when)) ∧ Below w.heap.size w w' := by
  obtain ⟨pa, pc, hpv⟩ := hm.2.row.form
  subst hpv
  rcases hm.1 with ⟨h0, _⟩ | ⟨tg, tc, rfl, hO⟩
  · omega
  have ge := hO.cells ht 5 (by decide)
  have lt := hO.lt
  clear hm hO
  have k0 := ((Below.refl w.heap.size w).alloc (Nat.le_refl _) (memO M.c (.slice (some ⟨tg, 0, none⟩) M.tn tc) (.slice pa M.pn pc) 36)).alloc (by simp) (.cells #[.int .i64 0, .int .i64 0, .int .i64 0, .int .i64 0, .int .i64 0] 41)
  have hA := alloc_block (.cells #[.int .i64 0, .int .i64 0, .int .i64 0, .int .i64 0, .int .i64 0] 41) (heap_alloc_new w (memO M.c (.slice (some ⟨tg, 0, none⟩) M.tn tc) (.slice pa M.pn pc) 36))
  have hR := heap_alloc_new (w.alloc (memO M.c (.slice (some ⟨tg, 0, none⟩) M.tn tc) (.slice pa M.pn pc) 36)) (.cells #[.int .i64 0, .int .i64 0, .int .i64 0, .int .i64 0, .int .i64 0] 41)
  rw [show (w.alloc (memO M.c (.slice (some ⟨tg, 0, none⟩) M.tn tc) (.slice pa M.pn pc) 36)).heap.size = w.heap.size + 1 by simp] at hR
  have gE := (k0.cell (p := ⟨tg, t * 8 + 5, none⟩) lt).trans ge
  have i4 : (0 : Int) ≤ (t : Int) := by omega
  have i5 : (t : Int) < (M.tn : Int) := by omega
  clear ge
  go_enter Tryz.func59, Tryz.ntmps59
  go_upto_region 1 with fail
  generalize ((w.alloc (memO M.c (.slice (some ⟨tg, 0, none⟩) M.tn tc) (.slice pa M.pn pc) 36)).alloc (.cells #[.int .i64 0, .int .i64 0, .int .i64 0, .int .i64 0, .int .i64 0] 41)) = W1 at k0 hA hR gE ⊢
  obtain ⟨x0, x1, x2, _, _, _⟩ := three hA
  have r0 := cell_of_block hR 0; have r1 := cell_of_block hR 1; have r2 := cell_of_block hR 2; have r3 := cell_of_block hR 3; have r4 := cell_of_block hR 4
  have f0 := unfrozen_of_block hR 0; have f1 := unfrozen_of_block hR 1; have f2 := unfrozen_of_block hR 2; have f3 := unfrozen_of_block hR 3; have f4 := unfrozen_of_block hR 4
  simp at r0 r1 r2 r3 r4
  have hne : ¬ tg = w.heap.size + 1 := by omega
  have hne2 : ¬ w.heap.size + 1 = tg := by omega
  go_region_held3 (fun w' => w'.cell? ⟨w.heap.size, 0, none⟩ = some (.int .i64 M.c) ∧ w'.cell? ⟨w.heap.size, 1, none⟩ = some (.slice (some ⟨tg, 0, none⟩) M.tn tc) ∧ w'.cell? ⟨tg, t * 8 + 5, none⟩ = some (.int .i64 (tmAt (M.t t) 5)))
    (first | with_reducible exact ⟨x0, x1, gE⟩ | (simp only [World.cell?_drew]; with_reducible exact ⟨x0, x1, gE⟩) | go_keep) (fail)
  all_goals
    have kf := (((((k0.setCell (p := ⟨w.heap.size + 1, 0, none⟩) (Nat.le_succ _) (.int .i64 kind)).setCell (p := ⟨w.heap.size + 1, 1, none⟩) (Nat.le_succ _) (.int .i64 (t : Int))).setCell (p := ⟨w.heap.size + 1, 2, none⟩) (Nat.le_succ _) (.int .i64 (tmAt (M.t t) 5))).setCell (p := ⟨w.heap.size + 1, 3, none⟩) (Nat.le_succ _) (.int .i64 when)).setCell (p := ⟨w.heap.size + 1, 4, none⟩) (Nat.le_succ _) (.int .i64 M.c)).drew
    go_wp2
    exact bodyPost_ret (v := etV (evI M kind t when)) (by simp [results, Tryz.results59, go_sem, r0, r1, r2, r3, r4, evI, tmAt]) rfl ⟨rfl, kf⟩

end Go.Proofs.YtflekodaiejflaaGreatDoor

/-
  A region that draws its order and whose one operation 't' waits for all that is taken first: the condition S need not hold behind 't'.
-/
namespace Go.Proofs.YtflekodaiejflaaGreatDoor
open Go Go.RowKit Go.Joins
set_option linter.unusedVariables false
set_option linter.unusedSimpArgs false

section
variable {P : Program} {ops : Array Oper} {Q : Exit → Act → World → Prop} {md : Region.Mode} {S : World → Prop} {t : Nat}
def wpAnyT (P : Program) (md : Region.Mode) (ops : Array Oper) (Q : Exit → Act → World → Prop) (S : World → Prop) (t : Nat) : Nat → Array Bool → Act → World → Prop
  | 0, listed, a, w => Region.ready md ops listed = [] ∧ Q .normal a w
  | fuel + 1, listed, a, w =>
    (Region.ready md ops listed = [] → Q .normal a w) ∧
    ∀ i ∈ Region.ready md ops listed, wpOp P ops Q i (fun a' w' => (i = t ∨ S w') ∧ wpAnyT P md ops Q S t fuel (listed.setIfInBounds i true) a' w') a w
theorem wpAny_of_T : ∀ (fuel : Nat) (listed : Array Bool) (a : Act) (w : World), wpAnyT P md ops Q S t fuel listed a w → wpAny P md ops Q fuel listed a w
  | 0, _, _, _, h => h
  | fuel + 1, _, _, _, h => ⟨h.1, fun i hi => wpOp_mono (fun a' w' h' => wpAny_of_T fuel _ a' w' h'.2) (h.2 i hi)⟩
theorem wpAnyT_first {i : Nat} {oi : Oper} {v : Value} (hi : ops[i]? = some oi) (hsel : ∀ (j : Nat) (o : Oper) cs b, ops[j]? = some o → o.op ≠ .select cs b)
    (hQ : ∀ c a w, Q (.panic c) (a.put oi.dst v) w → Q (.panic c) a w) (hT : Region.waitsFor md ops t i = true) :
    ∀ (fuel : Nat) (listed : Array Bool) (a : Act) (w : World),
      (∀ j oj, ops[j]? = some oj → j ≠ i → listed.getD j true = false → (∀ e ∈ oj.after, Region.binds md e = true → e.on ≠ i) → oi.apart ops oj = true) →
      i ∈ Region.ready md ops listed → YieldsIf P ops S oi v a → S w →
      wpAnyT P md ops Q S t fuel (listed.setIfInBounds i true) (a.put oi.dst v) w → wpAnyT P md ops Q S t (fuel + 1) listed a w := by
  intro fuel
  induction fuel with
  | zero =>
    intro listed a w _ hr hy hS H
    refine ⟨fun h => (by rw [h] at hr; cases hr), fun j hj => ?_⟩
    by_cases hji : j = i
    · subst hji; exact hy.wpOp hi hS ⟨.inr hS, H⟩
    · have := ready_mono hj hji
      rw [H.1] at this
      cases this
  | succ fuel ih =>
    intro listed a w hfree hr hy hS H
    refine ⟨fun h => (by rw [h] at hr; cases hr), fun j hj => ?_⟩
    by_cases hji : j = i
    · subst hji; exact hy.wpOp hi hS ⟨.inr hS, H⟩
    · have h1 := H.2 j (ready_mono hj hji)
      obtain ⟨hjun, oj, hoj, hall⟩ := mem_ready.1 hj
      have hnot : ∀ e ∈ oj.after, Region.binds md e = true → e.on ≠ i := fun e he hb heq => by
        have h1 := hall e he hb
        have h0 := (mem_ready.1 hr).1
        rw [heq] at h1
        rcases Nat.lt_or_ge i listed.size with h' | h'
        · simp [h'] at h0 h1; rw [h0] at h1; cases h1
        · simp [Array.getElem?_eq_none h'] at h1
      have hjt : j ≠ t := fun e => by
        subst e
        obtain ⟨oj', hoj', e, he, hb, heq⟩ := Region.waitsFor_spec hT
        rw [hoj] at hoj'
        injection hoj' with e1
        subst e1
        exact hnot e he hb heq
      have h2 := wpOp_putIf hoj (hfree j oj hoj hji hjun hnot) (fun cs b => hsel i oi cs b hi) (fun cs b => hsel j oj cs b hoj) hQ hy h1
      have hfree' : ∀ k ok, ops[k]? = some ok → k ≠ i → (listed.setIfInBounds j true).getD k true = false →
          (∀ e ∈ ok.after, Region.binds md e = true → e.on ≠ i) → oi.apart ops ok = true := fun k ok hk hki hun hno => by
        refine hfree k ok hk hki ?_ hno
        by_cases hjk : j = k
        · subst hjk; exact hjun
        · rw [getD_set_ne true hjk] at hun; exact hun
      refine wpOp_mono (fun a' w' h3 => ⟨h3.2.1, ih (listed.setIfInBounds j true) a' w' hfree' (ready_mono hr (Ne.symm hji)) h3.1 (h3.2.1.resolve_left hjt) ?_⟩) h2
      rw [Array.setIfInBounds_comm _ _ hji]
      exact h3.2.2
/-- take number i first -/
theorem wpAnyT_take {i : Nat} {oi : Oper} {v : Value} {fuel : Nat} {listed : Array Bool} {a : Act} {w : World} (hi : ops[i]? = some oi)
    (hs : Region.noSelect ops = true) (hf : Region.free md ops listed i = true) (hr : (Region.ready md ops listed).contains i = true) (hT : Region.waitsFor md ops t i = true)
    (hQ : ∀ c a w, Q (.panic c) (a.put oi.dst v) w → Q (.panic c) a w) (hy : YieldsIf P ops S oi v a) (hS : S w)
    (h : wpAnyT P md ops Q S t fuel (listed.setIfInBounds i true) (a.put oi.dst v) w) : wpAnyT P md ops Q S t (fuel + 1) listed a w :=
  wpAnyT_first hi (Region.noSelect_spec hs) hQ hT fuel listed a w (Region.free_spec hi hf) (by simpa using hr) hy hS h
/-- only number i may come up -/
theorem wpAnyT_one {i : Nat} {o : Oper} {fuel : Nat} {listed : Array Bool} {a : Act} {w : World} (hr : Region.ready md ops listed = [i]) (hi : ops[i]? = some o) (hw : Region.wanted o (yielded ops a.tmps) = true)
    (h : ∀ K : Act → World → Prop, (∀ a' w', (i = t ∨ S w') → wpAnyT P md ops Q S t fuel (listed.setIfInBounds i true) a' w' → K a' w') → o.wp P a w K Q) : wpAnyT P md ops Q S t (fuel + 1) listed a w := by
  refine ⟨fun h0 => (by rw [hr] at h0; cases h0), fun j hj => ?_⟩
  rw [hr] at hj
  obtain rfl : j = i := by simpa using hj
  unfold wpOp
  simp only [hi, hw, if_true]
  exact .inl (h _ fun a' w' h1 h2 => ⟨h1, h2⟩)
theorem wpAnyT_done {listed : Array Bool} {a : Act} {w : World} (hr : Region.ready md ops listed = []) (h : Q .normal a w) : ∀ fuel, wpAnyT P md ops Q S t fuel listed a w
  | 0 => ⟨hr, h⟩
  | _ + 1 => ⟨fun _ => h, by rw [hr]; simp⟩
theorem wp_region_T {id : Nat} {a : Act} {w : World} (S : World → Prop) (t : Nat) (hm : P.follows .mixedOrders = true)
    (h : wpAnyT P .any ops Q S t ops.size (Array.replicate ops.size false) a w.drew) : (Code.region id ops true).wp P Q a w :=
  wp_region_any hm (wpAny_of_T _ _ _ _ h)
end

end Go.Proofs.YtflekodaiejflaaGreatDoor

/-
  A timer is made (spec, chapter 9).
-/
namespace Go.Proofs.YtflekodaiejflaaGreatDoor
open Go.Deep Go.ChangeShapes Go.WideShapes Go.ChangeAt Go.RowKit Go.Joins
set_option linter.unusedVariables false
set_option linter.unusedSimpArgs false

theorem InDn.up {B : Nat} {D : Dn} {w0 w w' : World} {e : Ending} (h : InDn B D w e w') (k : Wk B w0 w) : InDn B D w0 e w' := by
  obtain ⟨tv, pv, e1, ho, hk⟩ := h
  exact ⟨tv, pv, e1, ho, k.trans hk⟩
theorem InDnB.up {B : Nat} {D : Dn} {q : Bool} {w0 w w' : World} {e : Ending} (h : InDnB B D q w e w') (k : Wk B w0 w) : InDnB B D q w0 e w' := by
  obtain ⟨tv, pv, e1, ho, hk⟩ := h
  exact ⟨tv, pv, e1, ho, k.trans hk⟩
end Go.Proofs.YtflekodaiejflaaGreatDoor

/-
  A time, and that much later (chapter 1), in the program.
-/
namespace Go.Proofs.YtflekodaiejflaaGreatDoor
open Go.RowKit
set_option linter.unusedVariables false
set_option linter.unusedSimpArgs false

set_option maxHeartbeats 400000 in
theorem after_any (t d : Int) (w : World) :
    Calls Tryz.prog 122 #[.int .i64 t, .int .i64 d] w fun e w' => e = .returned (.int .i64 (afterI t d)) ∧ w = w' := by
  cases h1 : inB t 0 1000000000
  · rw [afterI_no h1]
    go_enter Tryz.func122, Tryz.ntmps122
    go_wp2_with (go_at_call 140; refine (isTime_any _ _).mono ?_; rintro e w' ⟨rfl, rfl⟩)
    go_ret
    exact ⟨rfl, rfl⟩
  · obtain ⟨b1, b2⟩ := inB_iff.1 h1
    by_cases h2 : d < 0
    · rw [afterI_neg h1 h2]
      go_enter Tryz.func122, Tryz.ntmps122
      go_wp2_with (go_at_call 140; refine (isTime_any _ _).mono ?_; rintro e w' ⟨rfl, rfl⟩)
      go_ret
      exact ⟨rfl, rfl⟩
    · by_cases h3 : d ≤ 1000000000
      · by_cases h4 : t + d ≤ 1000000000
        · rw [afterI_in h1 h4 (by omega)]
          go_enter Tryz.func122, Tryz.ntmps122
          go_wp2_with (go_at_call 140; refine (isTime_any _ _).mono ?_; rintro e w' ⟨rfl, rfl⟩)
          go_ret
          exact ⟨rfl, rfl⟩
        · rw [afterI_far h1 (by omega) (by omega)]
          go_enter Tryz.func122, Tryz.ntmps122
          go_wp2_with (go_at_call 140; refine (isTime_any _ _).mono ?_; rintro e w' ⟨rfl, rfl⟩)
          go_ret
          exact ⟨rfl, rfl⟩
      · rw [afterI_far h1 (by omega) (by omega)]
        by_cases h4 : t + 1000000000 ≤ 1000000000
        · have h5 : t = 0 := by omega
          subst h5
          go_enter Tryz.func122, Tryz.ntmps122
          go_wp2_with (go_at_call 140; refine (isTime_any _ _).mono ?_; rintro e w' ⟨rfl, rfl⟩)
          go_ret
          exact ⟨rfl, rfl⟩
        · go_enter Tryz.func122, Tryz.ntmps122
          go_wp2_with (go_at_call 140; refine (isTime_any _ _).mono ?_; rintro e w' ⟨rfl, rfl⟩)
          go_ret
          exact ⟨rfl, rfl⟩

end Go.Proofs.YtflekodaiejflaaGreatDoor

/-
  A new timer, in the program (chapter 9).
-/
namespace Go.Proofs.YtflekodaiejflaaGreatDoor
open Go.RowKit Go.Joins
set_option linter.unusedVariables false
set_option linter.unusedSimpArgs false

/-- a call gives up -/
def GaveUp (B : Nat) (w : World) (e : Ending) (w' : World) : Prop := (∃ u pv, e = .panicked [{ v := .iface u pv, recovered := false }]) ∧ Below B w w'

abbrev tmNew (c b per kind : Int) : Obj := .cells #[.int .i64 2, .int .i64 (afterI c b), .int .i64 0, .int .i64 per, .int .i64 (-1), .int .i64 0, .int .i64 kind, .int .i64 0] 80

end Go.Proofs.YtflekodaiejflaaGreatDoor

/-
  A setting is counted, in the program.
-/
namespace Go.Proofs.YtflekodaiejflaaGreatDoor
open Go.RowKit Go.Joins
set_option linter.unusedVariables false
set_option linter.unusedSimpArgs false

set_option maxRecDepth 100000 in
set_option maxHeartbeats 2000000 in
theorem count_any {w : World} {b o : Nat} {G : Int} (h0 : 0 ≤ G) (h1 : G ≤ 100000) (hc : w.cell? ⟨b, o + 5, none⟩ = some (.int .i64 G)) (hf : w.frozen? ⟨b, o + 5, none⟩ = false) :
    Calls Tryz.prog 86 #[.pointer (some ⟨b, o, none⟩)] w fun e w' => e = .returned (.tuple #[]) ∧ w' = w.setCell ⟨b, o + 5, none⟩ (.int .i64 (minI (G + 1) 100000)) := by
  have hwr : IntKind.i64.wrap (G + 1) = G + 1 := by rw [IntKind.wrap_i64]; omega
  by_cases hl : 100000 < G + 1
  · have e : minI (G + 1) 100000 = 100000 := by unfold minI; rw [if_neg (by omega)]
    rw [e]
    go_enter Tryz.func86, Tryz.ntmps86
    go_wp2
    go_end0
    exact ⟨rfl, rfl⟩
  · have e : minI (G + 1) 100000 = G + 1 := by unfold minI; split <;> omega
    rw [e]
    go_enter Tryz.func86, Tryz.ntmps86
    go_wp2
    go_end0
    exact ⟨rfl, rfl⟩

end Go.Proofs.YtflekodaiejflaaGreatDoor

/-
  Tidying up, plainly (chapter 6): the program's ways and the model's come to the same memory. No Go in sight.
-/
namespace Go.Proofs.YtflekodaiejflaaGreatDoor
open Go.RowKit Go.Joins
set_option linter.unusedVariables false
set_option linter.unusedSimpArgs false

/-- a timer comes into a heap -/
def putM (M : Me) (t k : Nat) (wh : Int) : Me := setHp (setTm (setTm (setTm M t 0 1) t 1 wh) t 4 (k : Int)) k (pushedN (M.p k).n) (pushedF (M.p k).f (M.p k).n ((t : Int), wh))
/-- a timer is taken out of a heap -/
def takeM (M : Me) (t k : Nat) : Me := setTm (pullM M k (findFrom (M.p k).f (M.p k).n (t : Int) 0)) t 4 (-1)
end Go.Proofs.YtflekodaiejflaaGreatDoor

/-
  FnExactPushedOn, told what the program's own function answers.
-/
namespace Go.Proofs.YtflekodaiejflaaGreatDoor
open Go.RowKit Go.Joins
set_option linter.unusedVariables false
set_option linter.unusedSimpArgs false

/-! ### exPushed: a list and a word, asked of one list and one slot -/
/-- what the program's PushedOn is to answer -/
def Pushes (fn : FuncId) : Prop := ∀ (v : Value) (n : Nat) (f : Slots) (a b : Int) (w : World), n ≤ 1048576 → RowAt w v n f → Calls Tryz.prog fn #[v, .agg #[.int .i64 a, .int .i64 b]] w (NewRowB (pushedN n) (pushedF f n (a, b)) (decide (n < 30)) w)

end Go.Proofs.YtflekodaiejflaaGreatDoor

/-
  The program's heap (chapter 2): one slot more, at the end, and raised there.
-/
namespace Go.Proofs.YtflekodaiejflaaGreatDoor
open Go.RowKit Go.Joins
set_option linter.unusedVariables false
set_option linter.unusedSimpArgs false

/-- a heap in a variable of its own, in the block b -/
def HeapIn (w : World) (b : Nat) (v : Value) : Prop := w.heap[b]? = some (.cells #[v, dueV] 192 (0, 0))

/-- its list's block is no variable of a heap -/
theorem OwnAt.ne_heap {w : World} {B g n cap b : Nat} {f : Slots} {v : Value} (h : OwnAt w B g n cap f) (hb : HeapIn w b v) : b ≠ g := by
  rintro rfl
  obtain ⟨_, _, _, cur, hh, _⟩ := h
  rw [HeapIn, hh] at hb
  simp at hb

theorem OwnRow.ne_heap {w : World} {B n b : Nat} {f : Slots} {v u : Value} (h : OwnRow w B v n f) (hb : HeapIn w b u) : some b ≠ v.ownBlock := by
  rcases h with ⟨_, rfl⟩ | ⟨g, cap, rfl, h⟩
  · simp [Value.ownBlock]
  · intro e
    exact h.ne_heap hb (by simpa [Value.ownBlock] using e)
end Go.Proofs.YtflekodaiejflaaGreatDoor

/-
  The program's heap (chapter 2): one slot taken out.
-/
namespace Go.Proofs.YtflekodaiejflaaGreatDoor
open Go.RowKit Go.Joins
set_option linter.unusedVariables false
set_option linter.unusedSimpArgs false

end Go.Proofs.YtflekodaiejflaaGreatDoor

/-
  The program's PulledOff (chapter 2).
-/
namespace Go.Proofs.YtflekodaiejflaaGreatDoor
open Go.RowKit Go.Joins
set_option linter.unusedVariables false
set_option linter.unusedSimpArgs false

end Go.Proofs.YtflekodaiejflaaGreatDoor

/-
  Tidying up, in the program (chapter 6): into a heap, out of it; the top.
-/
namespace Go.Proofs.YtflekodaiejflaaGreatDoor
open Go.RowKit Go.Joins
set_option linter.unusedVariables false
set_option linter.unusedSimpArgs false

end Go.Proofs.YtflekodaiejflaaGreatDoor

/-
  Tidying up, in the program (chapter 6): armed, rung, set to its next time; out of a heap for good, elsewhere in it.
-/
namespace Go.Proofs.YtflekodaiejflaaGreatDoor
open Go.RowKit Go.Joins
set_option linter.unusedVariables false
set_option linter.unusedSimpArgs false

end Go.Proofs.YtflekodaiejflaaGreatDoor

/-
  Who is new comes into its heap, in the program (chapter 9).
-/
namespace Go.Proofs.YtflekodaiejflaaGreatDoor
open Go.RowKit Go.Joins
set_option linter.unusedVariables false
set_option linter.unusedSimpArgs false

theorem DeedX.setT {w : World} {B mb db tg n tc g t j : Nat} {a b c d : Int} {V : Nat → Value} {D : Dn} (h : DeedX w B mb db a b c d D) (ho : OpenX w B mb a b c (.slice (some ⟨tg, 0, none⟩) n tc) g V D.m) (ht : t < D.m.tn) (hj : j < 8) (x : Int) :
    DeedX (w.setCell ⟨tg, t * 8 + j, none⟩ (.int .i64 x)) B mb db a b c d ⟨setTm D.m t j x, D.h, D.v⟩ := by
  have hn := ho.t.len
  subst hn
  obtain ⟨cs, hcs⟩ := ho.t.at.hh
  exact h.mem (heap_set1 w tg _ _ db (ne_ty h.e hcs (by decide))) (ho.setT ht hj x).own
theorem Wd.setT {B tg n tc mb g : Nat} {x y z : Int} {V : Nat → Value} {M : Me} {a w : World} (h : Wd B a w) (ho : OpenX w B mb x y z (.slice (some ⟨tg, 0, none⟩) n tc) g V M) (o : Nat) (u : Value) : Wd B a (w.setCell ⟨tg, o, none⟩ u) := by
  have hn := ho.t.len
  subst hn
  obtain ⟨cs, hcs⟩ := ho.t.at.hh
  exact h.set hcs ho.t.at.1 (by decide) o u
/-- the memory that is armed -/
def readyM (D : Dn) (t : Nat) : Me := if D.h.call.code = 3 then setTm (genM D.m t) t 1 D.h.whe else genM D.m t
end Go.Proofs.YtflekodaiejflaaGreatDoor

/-
  A timer is claimed, in the program (chapter 10).
-/
namespace Go.Proofs.YtflekodaiejflaaGreatDoor
open Go.RowKit Go.Joins
set_option linter.unusedVariables false
set_option linter.unusedSimpArgs false

set_option maxRecDepth 100000 in
set_option maxHeartbeats 4000000 in
theorem seizeD_any {w : World} {B mb db t : Nat} {a b c d : Int} {D : Dn} (hB : B ≤ w.heap.size) (ht : t < D.m.tn) (h : DeedX w B mb db a b c d D) :
    Calls Tryz.prog 112 #[ptrV db, .int .i64 (t : Int)] w fun e w' => e = .returned (.tuple #[]) ∧ InD B mb db a b c d ⟨setTm D.m t 0 2, { D.h with tim := (t : Int) }, D.v⟩ w w' := by
  obtain ⟨d0, _, _, _, _, _, _, _, _, _⟩ := h.cells
  obtain ⟨tv, g, V, ho⟩ := h.o.opened
  obtain ⟨tg, tc, rfl⟩ := ho.tms ht
  obtain ⟨m0, m1, m2, m3, m4, m5⟩ := six ho.m
  obtain ⟨⟨t0, _⟩, tf⟩ := ho.tcells ht
  have f0 := tf (t * 8)
  clear tf
  have i2 : (0 : Int) ≤ (t : Int) := by omega
  have i3 : (t : Int) < (D.m.tn : Int) := by omega
  go_enter Tryz.func112, Tryz.ntmps112
  go_upto_region 1 with fail
  have h3 : DeedX (w.setCell ⟨tg, t * 8, none⟩ (.int .i64 2)) B mb db a b c d ⟨setTm D.m t 0 2, D.h, D.v⟩ := h.setT ho ht (j := 0) (by decide) 2
  have k3 : Wd B w (w.setCell ⟨tg, t * 8, none⟩ (.int .i64 2)) := (Wd.refl B w).setT ho (t * 8) (.int .i64 2)
  clear h ho t0 f0 d0 m0 m1 m2 m3 m4 m5
  generalize w.setCell ⟨tg, t * 8, none⟩ (.int .i64 2) = w3 at h3 k3 ⊢
  have d7 : w3.cell? ⟨db, 7, none⟩ = some _ := cell_of_block h3.e 7
  have f7 := unfrozen_of_block h3.e 7
  have h4 := h3.setTim (t : Int)
  have k4 := k3.setD h3 7 (.int .i64 (t : Int))
  clear h3 k3
  go_wp2
  go_end0
  exact ⟨rfl, h4, k4⟩

end Go.Proofs.YtflekodaiejflaaGreatDoor

/-
  What errors.Is and errors.As answer where the program asks them (chapter 10): a status that is in the way, with its reason, and the one that is not there.
-/
namespace Go.Proofs.YtflekodaiejflaaGreatDoor
open Go.RowKit Go.Extern.Stop Go.Stop Go.Extern
set_option linter.unusedVariables false
set_option linter.unusedSimpArgs false

/-- an error of the program's own: a status in the way (s), for the reason at b; and a reason -/
abbrev seV (s : Int) (b : Addr) : Value := .agg #[.int .i64 s, .iface 199 (.pointer (some b))]
abbrev seI (s : Int) (b : Addr) : Value := .iface 116 (seV s b)
abbrev esI (b : Addr) : Value := .iface 199 (.pointer (some b))

/-! ### closed facts -/
theorem erTypeOf (v : Value) (w : World) : (Extern.ReflectliteType.typeOf #[.iface 199 v]).run Tryz.prog w = .ok (.iface 173 (.agg #[.pointer (some ⟨4, 199, none⟩)])) w := by kernel_rfl
theorem erComparable (w : World) : ((Extern.ReflectliteType.method fun t => do Extern.Rtype.noPackHeld "Comparable" t; (fun a => Value.bool a.comparable) <$> typeInfo t) #[.agg #[.pointer (some ⟨4, 199, none⟩)]]).run Tryz.prog w = .ok (.bool true) w := by kernel_rfl
theorem erMComparable (v : Value) (w : World) : (Go.method 332 173 v "Comparable").run Tryz.prog w = .ok (200, v) w := by kernel_rfl
theorem erComp : (Tryz.prog.info? 199).map (·.comparable) = some true := by kernel_rfl
theorem erSize : (Tryz.prog.info? 220).map (·.size) = some 1 := by kernel_rfl
theorem noIsE (v : Value) (xT : TypeId) (w : World) : (Instr.typeAssert (.iface 199 v) xT 175 true).run Tryz.prog w = .ok (.tuple #[.nilIface, .bool false]) w := run_typeAssert_lacksB Tryz.underlying175 (by kernel_rfl) (by kernel_rfl) v xT w
theorem noUnwrapsE (v : Value) (xT : TypeId) (w : World) : (Instr.typeAssert (.iface 199 v) xT 179 true).run Tryz.prog w = .ok (.tuple #[.nilIface, .bool false]) w := run_typeAssert_lacksB Tryz.underlying179 (by kernel_rfl) (by kernel_rfl) v xT w
theorem noUnwrapE (v : Value) (xT : TypeId) (w : World) : (Instr.typeAssert (.iface 199 v) xT 178 true).run Tryz.prog w = .ok (.tuple #[.nilIface, .bool false]) w := run_typeAssert_lacksB Tryz.underlying178 (by kernel_rfl) (by kernel_rfl) v xT w
theorem noIsS (v : Value) (xT : TypeId) (w : World) : (Instr.typeAssert (.iface 116 v) xT 175 true).run Tryz.prog w = .ok (.tuple #[.nilIface, .bool false]) w := run_typeAssert_lacksB Tryz.underlying175 (by kernel_rfl) (by kernel_rfl) v xT w
theorem hasUnwrapS (v : Value) (xT : TypeId) (w : World) : (Instr.typeAssert (.iface 116 v) xT 178 true).run Tryz.prog w = .ok (.tuple #[.iface 116 v, .bool true]) w := run_typeAssert_hasB Tryz.underlying178 (by kernel_rfl) v xT w
theorem erMUnwrap (s : Int) (b : Addr) (w : World) : (Go.method 332 116 (seV s b) "Unwrap").run Tryz.prog w = .ok (194, seV s b) w := by kernel_rfl

/-! ### errors.Is -/
set_option maxHeartbeats 2000000 in
theorem is_same (s : Int) (b : Addr) (w : World) :
    Calls Tryz.prog 76 #[seI s b, esI b] w fun e w' => e = .returned (.bool true) ∧ Below w.heap.size w w' := by
  obtain ⟨i, hi, hcmp⟩ := Option.map_eq_some_iff.1 erComp
  obtain ⟨j, hj, hjs⟩ := Option.map_eq_some_iff.1 erSize
  have h8 := @run_callFunc_extern Tryz.prog 113 _ Extern.ReflectliteType.typeOf Tryz.func113 (by kernel_rfl) (by kernel_rfl) (by kernel_rfl) (by kernel_rfl)
  have h32 := @run_callFunc_extern Tryz.prog 200 _ (Extern.ReflectliteType.method fun t => do Extern.Rtype.noPackHeld "Comparable" t; pure (.bool (← typeInfo t).comparable)) Tryz.func200 (by kernel_rfl) (by kernel_rfl) (by kernel_rfl) (by kernel_rfl)
  have tT := erTypeOf
  have cT := erComparable
  have mR := erMComparable
  have nE := noIsE
  have uE := noUnwrapE
  have vE := noUnwrapsE
  have nS := noIsS
  have uS := hasUnwrapS
  have mU := erMUnwrap
  have heq := run_eql_iface_ptr_same (P := Tryz.prog) (w.alloc (.cells #[.int .i64 s, .iface 199 (.pointer (some b))] 116)) b Tryz.underlying112 Tryz.underlying199 hi hcmp hj
  have hty := run_eql_iface_types (P := Tryz.prog) 116 199 (seV s b) (.pointer (some b)) Tryz.underlying112 (by decide) w
  go_enter Tryz.func76, Tryz.ntmps76
  go_wp2
  refine wp_loop_rounds 2 ?_
  rw [rounds_succ]
  go_wp2
  rw [rounds_succ]
  go_wp2
  go_ret
  exact ⟨rfl, by first | exact Below.refl _ _ | exact (Below.refl _ _).alloc (Nat.le_refl _) _⟩

set_option maxHeartbeats 2000000 in
theorem is_other (s : Int) {b c : Addr} {ca cb : Array Value} {ta tb : TypeId} (hne : c ≠ b) (w : World) (hc : w.heap[c.block]? = some (.cells ca ta (0, 0))) (hb : w.heap[b.block]? = some (.cells cb tb (0, 0))) :
    Calls Tryz.prog 76 #[seI s c, esI b] w fun e w' => e = .returned (.bool false) ∧ Below w.heap.size w w' := by
  obtain ⟨i, hi, hcmp⟩ := Option.map_eq_some_iff.1 erComp
  obtain ⟨j, hj, hjs⟩ := Option.map_eq_some_iff.1 erSize
  have h8 := @run_callFunc_extern Tryz.prog 113 _ Extern.ReflectliteType.typeOf Tryz.func113 (by kernel_rfl) (by kernel_rfl) (by kernel_rfl) (by kernel_rfl)
  have h32 := @run_callFunc_extern Tryz.prog 200 _ (Extern.ReflectliteType.method fun t => do Extern.Rtype.noPackHeld "Comparable" t; pure (.bool (← typeInfo t).comparable)) Tryz.func200 (by kernel_rfl) (by kernel_rfl) (by kernel_rfl) (by kernel_rfl)
  have tT := erTypeOf
  have cT := erComparable
  have mR := erMComparable
  have nE := noIsE
  have uE := noUnwrapE
  have vE := noUnwrapsE
  have nS := noIsS
  have uS := hasUnwrapS
  have mU := erMUnwrap
  have heq := run_eql_iface_ptr_other (P := Tryz.prog) (w.alloc (.cells #[.int .i64 s, .iface 199 (.pointer (some c))] 116)) Tryz.underlying112 Tryz.underlying199 hi hcmp hj (by rw [hjs]; decide) hne (alloc_block _ hc) (alloc_block _ hb)
  have hty := run_eql_iface_types (P := Tryz.prog) 116 199 (seV s c) (.pointer (some b)) Tryz.underlying112 (by decide) w
  go_enter Tryz.func76, Tryz.ntmps76
  go_wp2
  refine wp_loop_rounds 2 ?_
  rw [rounds_succ]
  go_wp2
  rw [rounds_succ]
  go_wp2
  go_ret
  exact ⟨rfl, by first | exact Below.refl _ _ | exact (Below.refl _ _).alloc (Nat.le_refl _) _⟩

set_option maxHeartbeats 2000000 in
theorem is_absent {b c : Addr} {ca cb : Array Value} {ta tb : TypeId} (hne : c ≠ b) (w : World) (hc : w.heap[c.block]? = some (.cells ca ta (0, 0))) (hb : w.heap[b.block]? = some (.cells cb tb (0, 0))) :
    Calls Tryz.prog 76 #[esI c, esI b] w fun e w' => e = .returned (.bool false) ∧ Below w.heap.size w w' := by
  obtain ⟨i, hi, hcmp⟩ := Option.map_eq_some_iff.1 erComp
  obtain ⟨j, hj, hjs⟩ := Option.map_eq_some_iff.1 erSize
  have h8 := @run_callFunc_extern Tryz.prog 113 _ Extern.ReflectliteType.typeOf Tryz.func113 (by kernel_rfl) (by kernel_rfl) (by kernel_rfl) (by kernel_rfl)
  have h32 := @run_callFunc_extern Tryz.prog 200 _ (Extern.ReflectliteType.method fun t => do Extern.Rtype.noPackHeld "Comparable" t; pure (.bool (← typeInfo t).comparable)) Tryz.func200 (by kernel_rfl) (by kernel_rfl) (by kernel_rfl) (by kernel_rfl)
  have tT := erTypeOf
  have cT := erComparable
  have mR := erMComparable
  have nE := noIsE
  have uE := noUnwrapE
  have vE := noUnwrapsE
  have nS := noIsS
  have uS := hasUnwrapS
  have mU := erMUnwrap
  have heq := run_eql_iface_ptr_other (P := Tryz.prog) (w) Tryz.underlying112 Tryz.underlying199 hi hcmp hj (by rw [hjs]; decide) hne hc hb
  go_enter Tryz.func76, Tryz.ntmps76
  go_wp2
  refine wp_loop_rounds 1 ?_
  rw [rounds_succ]
  go_wp2
  go_ret
  exact ⟨rfl, by first | exact Below.refl _ _ | exact (Below.refl _ _).alloc (Nat.le_refl _) _⟩

end Go.Proofs.YtflekodaiejflaaGreatDoor
