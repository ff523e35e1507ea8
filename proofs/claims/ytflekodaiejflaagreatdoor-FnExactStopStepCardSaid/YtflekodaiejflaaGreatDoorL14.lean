/-
  Is a step fit (spec, chapter 9).
-/
import Derived.Test.YtflekodaiejflaaGreatDoorL11
import Derived.Test.YtflekodaiejflaaGreatDoorL09
import Derived.Deep.QuietTactic
import Derived.BigQuiet
import Derived.Deep.DeepCutAuto
import Derived.Test.YtflekodaiejflaaGreatDoorL13
import Derived.Test.YtflekodaiejflaaGreatDoorL00
import Derived.StillTailTactics
import Derived.OrdersHeld
import Derived.Test.YtflekodaiejflaaGreatDoorL01
import Derived.Test.YtflekodaiejflaaGreatDoorL06
import Derived.Test.YtflekodaiejflaaGreatDoorL12
import Derived.Deep.RegionHeld
import Derived.Test.YtflekodaiejflaaGreatDoorL07
import Derived.Deep.RegionLaw
import Derived.IntWalk
import Derived.Deep.RegionHeld3
import Derived.Test.YtflekodaiejflaaGreatDoorL02
import Derived.OpenShut
import Derived.ChangeOld
import Derived.Deep.SlicePairs
import Derived.Test.YtflekodaiejflaaGreatDoorL03
namespace Go.Proofs.YtflekodaiejflaaGreatDoor
open Go.Deep Go.ChangeShapes Go.WideShapes Go.ChangeAt Go.RowKit Go.Joins
set_option linter.unusedVariables false
set_option linter.unusedSimpArgs false

set_option maxRecDepth 100000 in
set_option maxHeartbeats 8000000 in
theorem spFit_any (a b c d : Int) (h : Hd) {tv pv : Value} {M : Me} {w : World} (hs : sizeM M ≤ 1048576) (hm : MemAt w tv pv M) :
    Calls Tryz.prog 38 #[.agg #[.int .i64 a, .int .i64 b, .int .i64 c], meV M.c tv pv, .int .i64 d, hdV h] w fun e w' => e = .returned (.bool (stepFit a b c d M h)) ∧ Below w.heap.size w w' := by
  obtain ⟨va, vc, qa, qc, rfl, rfl⟩ := hm.form
  have hn := (sizeM_le hs).1
  have k0 := ((((Below.refl w.heap.size w).alloc (Nat.le_refl _) (.cells #[.int .i64 a, .int .i64 b, .int .i64 c] 46)).alloc (by simp) (.cells #[.int .i64 M.c, .slice va M.tn vc, .slice qa M.pn qc] 36)).alloc (by simp; omega) (.cells #[.int .i64 h.pos, .int .i64 h.call.code, .int .i64 h.call.a, .int .i64 h.call.b, .int .i64 h.call.c, .int .i64 h.tim, .int .i64 h.whe, .bool h.had, .int .i64 h.cnt, .int .i64 h.beg, .int .i64 h.rep, .int .i64 h.out] 39))
  have kk := Below.refl (((w.alloc (.cells #[.int .i64 a, .int .i64 b, .int .i64 c] 46)).alloc (.cells #[.int .i64 M.c, .slice va M.tn vc, .slice qa M.pn qc] 36)).alloc (.cells #[.int .i64 h.pos, .int .i64 h.call.code, .int .i64 h.call.a, .int .i64 h.call.b, .int .i64 h.call.c, .int .i64 h.tim, .int .i64 h.whe, .bool h.had, .int .i64 h.cnt, .int .i64 h.beg, .int .i64 h.rep, .int .i64 h.out] 39)).heap.size (((w.alloc (.cells #[.int .i64 a, .int .i64 b, .int .i64 c] 46)).alloc (.cells #[.int .i64 M.c, .slice va M.tn vc, .slice qa M.pn qc] 36)).alloc (.cells #[.int .i64 h.pos, .int .i64 h.call.code, .int .i64 h.call.a, .int .i64 h.call.b, .int .i64 h.call.c, .int .i64 h.tim, .int .i64 h.whe, .bool h.had, .int .i64 h.cnt, .int .i64 h.beg, .int .i64 h.rep, .int .i64 h.out] 39))
  have HM := Lib.hid (fun (w' : World) (hb : Below w.heap.size w w') => hm.below hb)
  clear hm
  cases h1 : memOkB a b c M
  · skip
    go_enter Tryz.func38, Tryz.ntmps38
    go_wp2_with (first
      | (go_at_call 63; refine (spMemOk_any _ _ _ hs (HM.out _ (k0.trans (kk.mono k0.size)))).mono ?_; rintro e w1 ⟨rfl, hb⟩; replace kk := kk.trans (hb.mono kk.size); clear hb; (try clear hc hf); obtain ⟨hc, hf⟩ := bcell kk)
      | (go_at_call 64; refine (spHandOk_any _ _ _ _ _).mono ?_; rintro e w1 ⟨rfl, hb⟩; replace kk := kk.trans (hb.mono kk.size); clear hb; (try clear hc hf); obtain ⟨hc, hf⟩ := bcell kk)
      | (go_at_call 65; refine (l1Worker_any _ _ _ _ _).mono ?_; rintro e w1 ⟨rfl, hb⟩; replace kk := kk.trans (hb.mono kk.size); clear hb; (try clear hc hf); obtain ⟨hc, hf⟩ := bcell kk)
      | (go_at_call 66; refine (l5Has_any ⟨_, _, rfl⟩ hn _ _).mono ?_; rintro e w1 ⟨rfl, hb⟩; replace kk := kk.trans (hb.mono kk.size); clear hb; (try clear hc hf); obtain ⟨hc, hf⟩ := bcell kk))
    go_ret
    exact ⟨ret_bool' (by simp [stepFit, h1]), k0.trans (kk.mono k0.size)⟩
  cases h2 : handB a b c h
  · skip
    go_enter Tryz.func38, Tryz.ntmps38
    go_wp2_with (first
      | (go_at_call 63; refine (spMemOk_any _ _ _ hs (HM.out _ (k0.trans (kk.mono k0.size)))).mono ?_; rintro e w1 ⟨rfl, hb⟩; replace kk := kk.trans (hb.mono kk.size); clear hb; (try clear hc hf); obtain ⟨hc, hf⟩ := bcell kk)
      | (go_at_call 64; refine (spHandOk_any _ _ _ _ _).mono ?_; rintro e w1 ⟨rfl, hb⟩; replace kk := kk.trans (hb.mono kk.size); clear hb; (try clear hc hf); obtain ⟨hc, hf⟩ := bcell kk)
      | (go_at_call 65; refine (l1Worker_any _ _ _ _ _).mono ?_; rintro e w1 ⟨rfl, hb⟩; replace kk := kk.trans (hb.mono kk.size); clear hb; (try clear hc hf); obtain ⟨hc, hf⟩ := bcell kk)
      | (go_at_call 66; refine (l5Has_any ⟨_, _, rfl⟩ hn _ _).mono ?_; rintro e w1 ⟨rfl, hb⟩; replace kk := kk.trans (hb.mono kk.size); clear hb; (try clear hc hf); obtain ⟨hc, hf⟩ := bcell kk))
    go_ret
    exact ⟨ret_bool' (by simp [stepFit, h1, h2]), k0.trans (kk.mono k0.size)⟩
  cases h3 : workB a b c d
  · skip
    go_enter Tryz.func38, Tryz.ntmps38
    go_wp2_with (first
      | (go_at_call 63; refine (spMemOk_any _ _ _ hs (HM.out _ (k0.trans (kk.mono k0.size)))).mono ?_; rintro e w1 ⟨rfl, hb⟩; replace kk := kk.trans (hb.mono kk.size); clear hb; (try clear hc hf); obtain ⟨hc, hf⟩ := bcell kk)
      | (go_at_call 64; refine (spHandOk_any _ _ _ _ _).mono ?_; rintro e w1 ⟨rfl, hb⟩; replace kk := kk.trans (hb.mono kk.size); clear hb; (try clear hc hf); obtain ⟨hc, hf⟩ := bcell kk)
      | (go_at_call 65; refine (l1Worker_any _ _ _ _ _).mono ?_; rintro e w1 ⟨rfl, hb⟩; replace kk := kk.trans (hb.mono kk.size); clear hb; (try clear hc hf); obtain ⟨hc, hf⟩ := bcell kk)
      | (go_at_call 66; refine (l5Has_any ⟨_, _, rfl⟩ hn _ _).mono ?_; rintro e w1 ⟨rfl, hb⟩; replace kk := kk.trans (hb.mono kk.size); clear hb; (try clear hc hf); obtain ⟨hc, hf⟩ := bcell kk))
    go_ret
    exact ⟨ret_bool' (by simp [stepFit, h1, h2, h3]), k0.trans (kk.mono k0.size)⟩
  by_cases h4 : h.tim = -1
  case pos =>
    have h4b : (h.tim == -1) = true := by simpa using h4
    have H4 := Lib.hid h4
    clear h4
    go_enter Tryz.func38, Tryz.ntmps38
    go_wp2_with (first
      | (go_at_call 63; refine (spMemOk_any _ _ _ hs (HM.out _ (k0.trans (kk.mono k0.size)))).mono ?_; rintro e w1 ⟨rfl, hb⟩; replace kk := kk.trans (hb.mono kk.size); clear hb; (try clear hc hf); obtain ⟨hc, hf⟩ := bcell kk)
      | (go_at_call 64; refine (spHandOk_any _ _ _ _ _).mono ?_; rintro e w1 ⟨rfl, hb⟩; replace kk := kk.trans (hb.mono kk.size); clear hb; (try clear hc hf); obtain ⟨hc, hf⟩ := bcell kk)
      | (go_at_call 65; refine (l1Worker_any _ _ _ _ _).mono ?_; rintro e w1 ⟨rfl, hb⟩; replace kk := kk.trans (hb.mono kk.size); clear hb; (try clear hc hf); obtain ⟨hc, hf⟩ := bcell kk)
      | (go_at_call 66; refine (l5Has_any ⟨_, _, rfl⟩ hn _ _).mono ?_; rintro e w1 ⟨rfl, hb⟩; replace kk := kk.trans (hb.mono kk.size); clear hb; (try clear hc hf); obtain ⟨hc, hf⟩ := bcell kk))
    go_ret
    exact ⟨ret_bool' (by simp [stepFit, h1, h2, h3, H4.out]), k0.trans (kk.mono k0.size)⟩
  have h4b : (h.tim == -1) = false := by simpa using h4
  go_enter Tryz.func38, Tryz.ntmps38
  go_wp2_with (first
    | (go_at_call 63; refine (spMemOk_any _ _ _ hs (HM.out _ (k0.trans (kk.mono k0.size)))).mono ?_; rintro e w1 ⟨rfl, hb⟩; replace kk := kk.trans (hb.mono kk.size); clear hb; (try clear hc hf); obtain ⟨hc, hf⟩ := bcell kk)
    | (go_at_call 64; refine (spHandOk_any _ _ _ _ _).mono ?_; rintro e w1 ⟨rfl, hb⟩; replace kk := kk.trans (hb.mono kk.size); clear hb; (try clear hc hf); obtain ⟨hc, hf⟩ := bcell kk)
    | (go_at_call 65; refine (l1Worker_any _ _ _ _ _).mono ?_; rintro e w1 ⟨rfl, hb⟩; replace kk := kk.trans (hb.mono kk.size); clear hb; (try clear hc hf); obtain ⟨hc, hf⟩ := bcell kk)
    | (go_at_call 66; refine (l5Has_any ⟨_, _, rfl⟩ hn _ _).mono ?_; rintro e w1 ⟨rfl, hb⟩; replace kk := kk.trans (hb.mono kk.size); clear hb; (try clear hc hf); obtain ⟨hc, hf⟩ := bcell kk))
  go_ret
  exact ⟨ret_bool' (by simp [stepFit, h1, h2, h3, h4]), k0.trans (kk.mono k0.size)⟩

end Go.Proofs.YtflekodaiejflaaGreatDoor

/-
  What is told of a timer; is a step fit (spec, chapter 9).
-/
namespace Go.Proofs.YtflekodaiejflaaGreatDoor
open Go.Deep Go.ChangeShapes Go.WideShapes Go.ChangeAt Go.RowKit Go.Joins
set_option linter.unusedVariables false
set_option linter.unusedSimpArgs false

set_option maxRecDepth 100000 in
set_option maxHeartbeats 8000000 in
theorem l9Ev_any {B t : Nat} {tv pv : Value} {M : Me} {w : World} (kind when : Int) (ht : t < M.tn) (hm : OwnMem w B tv pv M) :
    Calls Tryz.prog 59 #[meV M.c tv pv, .int .i64 kind, .int .i64 (t : Int), .int .i64 when] w fun e w' => e = .returned (etV (evI M kind t when)) ∧ Below w.heap.size w w' := by
  obtain ⟨pa, pc, hpv⟩ := hm.2.row.form
  subst hpv
  rcases hm.1 with ⟨h0, _⟩ | ⟨tg, tc, rfl, hO⟩
  · omega
  have ge := hO.cells ht 5 (by decide)
  have lt := hO.lt
  clear hm hO
  have k0 := ((Below.refl w.heap.size w).alloc (Nat.le_refl _) (memO M.c (.slice (some ⟨tg, 0, none⟩) M.tn tc) (.slice pa M.pn pc) 36)).alloc (by simp) (.cells #[.int .i64 0, .int .i64 0, .int .i64 0, .int .i64 0, .int .i64 0] 41)
  have hA := alloc_block (.cells #[.int .i64 0, .int .i64 0, .int .i64 0, .int .i64 0, .int .i64 0] 41) (heap_alloc_new w (memO M.c (.slice (some ⟨tg, 0, none⟩) M.tn tc) (.slice pa M.pn pc) 36))
  have hR := heap_alloc_new (w.alloc (memO M.c (.slice (some ⟨tg, 0, none⟩) M.tn tc) (.slice pa M.pn pc) 36)) (.cells #[.int .i64 0, .int .i64 0, .int .i64 0, .int .i64 0, .int .i64 0] 41)
  rw [show (w.alloc (memO M.c (.slice (some ⟨tg, 0, none⟩) M.tn tc) (.slice pa M.pn pc) 36)).heap.size = w.heap.size + 1 by simp] at hR
  have gE := (k0.cell (p := ⟨tg, t * 8 + 5, none⟩) lt).trans ge
  have i4 : (0 : Int) ≤ (t : Int) := by omega
  have i5 : (t : Int) < (M.tn : Int) := by omega
  clear ge
  go_enter Tryz.func59, Tryz.ntmps59
  go_upto_region 1 with fail
  generalize ((w.alloc (memO M.c (.slice (some ⟨tg, 0, none⟩) M.tn tc) (.slice pa M.pn pc) 36)).alloc (.cells #[.int .i64 0, .int .i64 0, .int .i64 0, .int .i64 0, .int .i64 0] 41)) = W1 at k0 hA hR gE ⊢
  obtain ⟨x0, x1, x2, _, _, _⟩ := three hA
  have r0 := cell_of_block hR 0; have r1 := cell_of_block hR 1; have r2 := cell_of_block hR 2; have r3 := cell_of_block hR 3; have r4 := cell_of_block hR 4
  have f0 := unfrozen_of_block hR 0; have f1 := unfrozen_of_block hR 1; have f2 := unfrozen_of_block hR 2; have f3 := unfrozen_of_block hR 3; have f4 := unfrozen_of_block hR 4
  simp at r0 r1 r2 r3 r4
  have hne : ¬ tg = w.heap.size + 1 := by omega
  have hne2 : ¬ w.heap.size + 1 = tg := by omega
  go_region_held3 (fun w' => w'.cell? ⟨w.heap.size, 0, none⟩ = some (.int .i64 M.c) ∧ w'.cell? ⟨w.heap.size, 1, none⟩ = some (.slice (some ⟨tg, 0, none⟩) M.tn tc) ∧ w'.cell? ⟨tg, t * 8 + 5, none⟩ = some (.int .i64 (tmAt (M.t t) 5)))
    (first | with_reducible exact ⟨x0, x1, gE⟩ | (simp only [World.cell?_drew]; with_reducible exact ⟨x0, x1, gE⟩) | go_keep) (fail)
  all_goals
    have kf := (((((k0.setCell (p := ⟨w.heap.size + 1, 0, none⟩) (Nat.le_succ _) (.int .i64 kind)).setCell (p := ⟨w.heap.size + 1, 1, none⟩) (Nat.le_succ _) (.int .i64 (t : Int))).setCell (p := ⟨w.heap.size + 1, 2, none⟩) (Nat.le_succ _) (.int .i64 (tmAt (M.t t) 5))).setCell (p := ⟨w.heap.size + 1, 3, none⟩) (Nat.le_succ _) (.int .i64 when)).setCell (p := ⟨w.heap.size + 1, 4, none⟩) (Nat.le_succ _) (.int .i64 M.c)).drew
    go_wp2
    exact bodyPost_ret (v := etV (evI M kind t when)) (by simp [results, Tryz.results59, go_sem, r0, r1, r2, r3, r4, evI, tmAt]) rfl ⟨rfl, kf⟩

end Go.Proofs.YtflekodaiejflaaGreatDoor

/-
  A region that draws its order and whose one operation 't' waits for all that is taken first: the condition S need not hold behind 't'.
-/
namespace Go.Proofs.YtflekodaiejflaaGreatDoor
open Go Go.RowKit Go.Joins
set_option linter.unusedVariables false
set_option linter.unusedSimpArgs false

section
variable {P : Program} {ops : Array Oper} {Q : Exit → Act → World → Prop} {md : Region.Mode} {S : World → Prop} {t : Nat}
def wpAnyT (P : Program) (md : Region.Mode) (ops : Array Oper) (Q : Exit → Act → World → Prop) (S : World → Prop) (t : Nat) : Nat → Array Bool → Act → World → Prop
  | 0, listed, a, w => Region.ready md ops listed = [] ∧ Q .normal a w
  | fuel + 1, listed, a, w =>
    (Region.ready md ops listed = [] → Q .normal a w) ∧
    ∀ i ∈ Region.ready md ops listed, wpOp P ops Q i (fun a' w' => (i = t ∨ S w') ∧ wpAnyT P md ops Q S t fuel (listed.setIfInBounds i true) a' w') a w
theorem wpAny_of_T : ∀ (fuel : Nat) (listed : Array Bool) (a : Act) (w : World), wpAnyT P md ops Q S t fuel listed a w → wpAny P md ops Q fuel listed a w
  | 0, _, _, _, h => h
  | fuel + 1, _, _, _, h => ⟨h.1, fun i hi => wpOp_mono (fun a' w' h' => wpAny_of_T fuel _ a' w' h'.2) (h.2 i hi)⟩
theorem wpAnyT_first {i : Nat} {oi : Oper} {v : Value} (hi : ops[i]? = some oi) (hsel : ∀ (j : Nat) (o : Oper) cs b, ops[j]? = some o → o.op ≠ .select cs b)
    (hQ : ∀ c a w, Q (.panic c) (a.put oi.dst v) w → Q (.panic c) a w) (hT : Region.waitsFor md ops t i = true) :
    ∀ (fuel : Nat) (listed : Array Bool) (a : Act) (w : World),
      (∀ j oj, ops[j]? = some oj → j ≠ i → listed.getD j true = false → (∀ e ∈ oj.after, Region.binds md e = true → e.on ≠ i) → oi.apart ops oj = true) →
      i ∈ Region.ready md ops listed → YieldsIf P ops S oi v a → S w →
      wpAnyT P md ops Q S t fuel (listed.setIfInBounds i true) (a.put oi.dst v) w → wpAnyT P md ops Q S t (fuel + 1) listed a w := by
  intro fuel
  induction fuel with
  | zero =>
    intro listed a w _ hr hy hS H
    refine ⟨fun h => (by rw [h] at hr; cases hr), fun j hj => ?_⟩
    by_cases hji : j = i
    · subst hji; exact hy.wpOp hi hS ⟨.inr hS, H⟩
    · have := ready_mono hj hji
      rw [H.1] at this
      cases this
  | succ fuel ih =>
    intro listed a w hfree hr hy hS H
    refine ⟨fun h => (by rw [h] at hr; cases hr), fun j hj => ?_⟩
    by_cases hji : j = i
    · subst hji; exact hy.wpOp hi hS ⟨.inr hS, H⟩
    · have h1 := H.2 j (ready_mono hj hji)
      obtain ⟨hjun, oj, hoj, hall⟩ := mem_ready.1 hj
      have hnot : ∀ e ∈ oj.after, Region.binds md e = true → e.on ≠ i := fun e he hb heq => by
        have h1 := hall e he hb
        have h0 := (mem_ready.1 hr).1
        rw [heq] at h1
        rcases Nat.lt_or_ge i listed.size with h' | h'
        · simp [h'] at h0 h1; rw [h0] at h1; cases h1
        · simp [Array.getElem?_eq_none h'] at h1
      have hjt : j ≠ t := fun e => by
        subst e
        obtain ⟨oj', hoj', e, he, hb, heq⟩ := Region.waitsFor_spec hT
        rw [hoj] at hoj'
        injection hoj' with e1
        subst e1
        exact hnot e he hb heq
      have h2 := wpOp_putIf hoj (hfree j oj hoj hji hjun hnot) (fun cs b => hsel i oi cs b hi) (fun cs b => hsel j oj cs b hoj) hQ hy h1
      have hfree' : ∀ k ok, ops[k]? = some ok → k ≠ i → (listed.setIfInBounds j true).getD k true = false →
          (∀ e ∈ ok.after, Region.binds md e = true → e.on ≠ i) → oi.apart ops ok = true := fun k ok hk hki hun hno => by
        refine hfree k ok hk hki ?_ hno
        by_cases hjk : j = k
        · subst hjk; exact hjun
        · rw [getD_set_ne true hjk] at hun; exact hun
      refine wpOp_mono (fun a' w' h3 => ⟨h3.2.1, ih (listed.setIfInBounds j true) a' w' hfree' (ready_mono hr (Ne.symm hji)) h3.1 (h3.2.1.resolve_left hjt) ?_⟩) h2
      rw [Array.setIfInBounds_comm _ _ hji]
      exact h3.2.2
/-- take number i first -/
theorem wpAnyT_take {i : Nat} {oi : Oper} {v : Value} {fuel : Nat} {listed : Array Bool} {a : Act} {w : World} (hi : ops[i]? = some oi)
    (hs : Region.noSelect ops = true) (hf : Region.free md ops listed i = true) (hr : (Region.ready md ops listed).contains i = true) (hT : Region.waitsFor md ops t i = true)
    (hQ : ∀ c a w, Q (.panic c) (a.put oi.dst v) w → Q (.panic c) a w) (hy : YieldsIf P ops S oi v a) (hS : S w)
    (h : wpAnyT P md ops Q S t fuel (listed.setIfInBounds i true) (a.put oi.dst v) w) : wpAnyT P md ops Q S t (fuel + 1) listed a w :=
  wpAnyT_first hi (Region.noSelect_spec hs) hQ hT fuel listed a w (Region.free_spec hi hf) (by simpa using hr) hy hS h
/-- only number i may come up -/
theorem wpAnyT_one {i : Nat} {o : Oper} {fuel : Nat} {listed : Array Bool} {a : Act} {w : World} (hr : Region.ready md ops listed = [i]) (hi : ops[i]? = some o) (hw : Region.wanted o (yielded ops a.tmps) = true)
    (h : ∀ K : Act → World → Prop, (∀ a' w', (i = t ∨ S w') → wpAnyT P md ops Q S t fuel (listed.setIfInBounds i true) a' w' → K a' w') → o.wp P a w K Q) : wpAnyT P md ops Q S t (fuel + 1) listed a w := by
  refine ⟨fun h0 => (by rw [hr] at h0; cases h0), fun j hj => ?_⟩
  rw [hr] at hj
  obtain rfl : j = i := by simpa using hj
  unfold wpOp
  simp only [hi, hw, if_true]
  exact .inl (h _ fun a' w' h1 h2 => ⟨h1, h2⟩)
theorem wpAnyT_done {listed : Array Bool} {a : Act} {w : World} (hr : Region.ready md ops listed = []) (h : Q .normal a w) : ∀ fuel, wpAnyT P md ops Q S t fuel listed a w
  | 0 => ⟨hr, h⟩
  | _ + 1 => ⟨fun _ => h, by rw [hr]; simp⟩
theorem wp_region_T {id : Nat} {a : Act} {w : World} (S : World → Prop) (t : Nat) (hm : P.follows .mixedOrders = true)
    (h : wpAnyT P .any ops Q S t ops.size (Array.replicate ops.size false) a w.drew) : (Code.region id ops true).wp P Q a w :=
  wp_region_any hm (wpAny_of_T _ _ _ _ h)
end

end Go.Proofs.YtflekodaiejflaaGreatDoor

/-
  A timer is made (spec, chapter 9).
-/
namespace Go.Proofs.YtflekodaiejflaaGreatDoor
open Go.Deep Go.ChangeShapes Go.WideShapes Go.ChangeAt Go.RowKit Go.Joins
set_option linter.unusedVariables false
set_option linter.unusedSimpArgs false

theorem InDn.up {B : Nat} {D : Dn} {w0 w w' : World} {e : Ending} (h : InDn B D w e w') (k : Wk B w0 w) : InDn B D w0 e w' := by
  obtain ⟨tv, pv, e1, ho, hk⟩ := h
  exact ⟨tv, pv, e1, ho, k.trans hk⟩
theorem InDnB.up {B : Nat} {D : Dn} {q : Bool} {w0 w w' : World} {e : Ending} (h : InDnB B D q w e w') (k : Wk B w0 w) : InDnB B D q w0 e w' := by
  obtain ⟨tv, pv, e1, ho, hk⟩ := h
  exact ⟨tv, pv, e1, ho, k.trans hk⟩
theorem OwnTRow.blk {w : World} {B n : Nat} {v : Value} {f : Tms} (h : OwnTRow w B v n f) : ∀ x, v.ownBlock = some x → B ≤ x ∧ ∃ cs : Array Value, w.heap[x]? = some (.cells cs 80 (0, 0)) := by
  intro x hx
  rcases h with ⟨_, rfl⟩ | ⟨g, cap, rfl, h1, _, _, cur, hh, _⟩
  · cases hx
  · cases hx
    exact ⟨h1, cur, hh⟩
theorem OwnRow.blk {w : World} {B n : Nat} {v : Value} {f : Slots} (h : OwnRow w B v n f) : ∀ x, v.ownBlock = some x → x < w.heap.size ∧ ∃ cs : Array Value, w.heap[x]? = some (.cells cs 133 (0, 0)) := by
  intro x hx
  rcases h with ⟨_, rfl⟩ | ⟨g, cap, rfl, h1, _, _, cur, hh, _⟩
  · cases hx
  · cases hx
    exact ⟨lt_of_block hh, cur, hh⟩
/-- the list of timers has grown by one -/
theorem OpenMem.grownT {w w' : World} {B pg pc : Nat} {tv v' : Value} {V : Nat → Value} {M : Me} {T : Tm} (h : OpenMem w B tv pg pc V M) (hg : w.grownBy w' tv.ownBlock)
    (ho : w'.ownsRow B 80 8 v' (M.tn + 1) (cellsT M.t M.tn ++ cellsT (fun _ => T) 1)) : OpenMem w' B v' pg pc V (addTm M T) := by
  have hb := h.t.blk
  rw [cellsT_push] at ho
  refine ⟨ownT_of_row ho, ?_, ?_⟩
  · exact h.l.grown hg fun x hx e => by
      obtain ⟨_, cs, hc⟩ := hb x hx
      obtain ⟨cs', hc'⟩ := h.l.hh
      subst e
      rw [hc] at hc'
      injection hc' with e1
      injection e1 with _ e2
      exact absurd e2 (by decide)
  · refine h.h.other fun i hi x hx => hg.block x ?_ ?_
    · exact ((h.h.1 i hi).blk x hx).1
    · intro e
      obtain ⟨_, cs, hc⟩ := hb x e.symm
      obtain ⟨_, cs', hc'⟩ := (h.h.1 i hi).blk x hx
      rw [hc] at hc'
      injection hc' with e1
      injection e1 with _ e2
      exact absurd e2 (by decide)
theorem Wk.grownT {w0 w w' : World} {B n : Nat} {tv : Value} {f : Tms} (k : Wk B w0 w) (h : OwnTRow w B tv n f) (hg : w.grownBy w' tv.ownBlock) (hB : B ≤ w.heap.size) : Wk B w0 w' :=
  k.trans ⟨b_grownO hg (fun x hx => (h.blk x hx).1) hB, KeepsBut.of_grown hg fun x hx => by
    obtain ⟨_, cs, hc⟩ := h.blk x hx
    exact ⟨cs, _, hc, by decide⟩⟩

end Go.Proofs.YtflekodaiejflaaGreatDoor

/-
  A time, and that much later (chapter 1), in the program.
-/
namespace Go.Proofs.YtflekodaiejflaaGreatDoor
open Go.RowKit
set_option linter.unusedVariables false
set_option linter.unusedSimpArgs false

set_option maxHeartbeats 400000 in
theorem after_any (t d : Int) (w : World) :
    Calls Tryz.prog 122 #[.int .i64 t, .int .i64 d] w fun e w' => e = .returned (.int .i64 (afterI t d)) ∧ w = w' := by
  cases h1 : inB t 0 1000000000
  · rw [afterI_no h1]
    go_enter Tryz.func122, Tryz.ntmps122
    go_wp2_with (go_at_call 140; refine (isTime_any _ _).mono ?_; rintro e w' ⟨rfl, rfl⟩)
    go_ret
    exact ⟨rfl, rfl⟩
  · obtain ⟨b1, b2⟩ := inB_iff.1 h1
    by_cases h2 : d < 0
    · rw [afterI_neg h1 h2]
      go_enter Tryz.func122, Tryz.ntmps122
      go_wp2_with (go_at_call 140; refine (isTime_any _ _).mono ?_; rintro e w' ⟨rfl, rfl⟩)
      go_ret
      exact ⟨rfl, rfl⟩
    · by_cases h3 : d ≤ 1000000000
      · by_cases h4 : t + d ≤ 1000000000
        · rw [afterI_in h1 h4 (by omega)]
          go_enter Tryz.func122, Tryz.ntmps122
          go_wp2_with (go_at_call 140; refine (isTime_any _ _).mono ?_; rintro e w' ⟨rfl, rfl⟩)
          go_ret
          exact ⟨rfl, rfl⟩
        · rw [afterI_far h1 (by omega) (by omega)]
          go_enter Tryz.func122, Tryz.ntmps122
          go_wp2_with (go_at_call 140; refine (isTime_any _ _).mono ?_; rintro e w' ⟨rfl, rfl⟩)
          go_ret
          exact ⟨rfl, rfl⟩
      · rw [afterI_far h1 (by omega) (by omega)]
        by_cases h4 : t + 1000000000 ≤ 1000000000
        · have h5 : t = 0 := by omega
          subst h5
          go_enter Tryz.func122, Tryz.ntmps122
          go_wp2_with (go_at_call 140; refine (isTime_any _ _).mono ?_; rintro e w' ⟨rfl, rfl⟩)
          go_ret
          exact ⟨rfl, rfl⟩
        · go_enter Tryz.func122, Tryz.ntmps122
          go_wp2_with (go_at_call 140; refine (isTime_any _ _).mono ?_; rintro e w' ⟨rfl, rfl⟩)
          go_ret
          exact ⟨rfl, rfl⟩

end Go.Proofs.YtflekodaiejflaaGreatDoor

/-
  A new timer, in the program (chapter 9).
-/
namespace Go.Proofs.YtflekodaiejflaaGreatDoor
open Go.RowKit Go.Joins
set_option linter.unusedVariables false
set_option linter.unusedSimpArgs false

/-- a call gives up -/
def GaveUp (B : Nat) (w : World) (e : Ending) (w' : World) : Prop := (∃ u pv, e = .panicked [{ v := .iface u pv, recovered := false }]) ∧ Below B w w'

/-- the list of timers has grown by one, and is stored -/
theorem OpenX.appT {w w' : World} {B mb g : Nat} {a b c : Int} {tv v' : Value} {V : Nat → Value} {M : Me} {T : Tm} (h : OpenX w B mb a b c tv g V M) (hg : w.grownBy w' tv.ownBlock)
    (ho : w'.ownsRow B 80 8 v' (M.tn + 1) (cellsT M.t M.tn ++ cellsT (fun _ => T) 1)) : OpenX (w'.setCell ⟨mb, 4, none⟩ v') B mb a b c v' g V (addTm M T) := by
  have hb := h.t.blk
  rw [cellsT_push] at ho
  have ht := ownT_of_row ho
  obtain ⟨cl, hcl⟩ := h.l.hh
  have e1 : w'.heap[mb]? = w.heap[mb]? := hg.block mb (lt_of_block h.m) (fun e => by
    obtain ⟨_, cs, hc⟩ := hb mb e.symm
    exact ne_ty h.m hc (by decide) rfl)
  have e2 : w'.heap[g]? = w.heap[g]? := hg.block g (lt_of_block hcl) (fun e => by
    obtain ⟨_, cs, hc⟩ := hb g e.symm
    exact ne_ty hcl hc (by decide) rfl)
  have hm := e1.trans h.m
  have hh := h.h.other (w' := w') fun i hi x hx => hg.block x ((h.h.1 i hi).blk x hx).1 (fun e => by
    obtain ⟨_, cs, hc⟩ := hb x e.symm
    obtain ⟨_, cs', hc'⟩ := (h.h.1 i hi).blk x hx
    exact ne_ty hc' hc (by decide) rfl)
  have hl := h.l.block e2
  exact ⟨h.m0, block_setCell hm (i := 4) _, ht.other hm (by decide) (heap_set1 w' mb _ _), hl.block (heap_set1 w' mb _ _ g (ne_ty (e2.trans hcl) hm (by decide))), hh.other (fun i hi y hy => heap_set1 w' mb _ _ y (own_ne (hh.1 i hi) hm (by decide) y hy))⟩
theorem Wd.grownT {w0 w w' : World} {B n : Nat} {tv : Value} {f : Tms} (k : Wd B w0 w) (h : OwnTRow w B tv n f) (hg : w.grownBy w' tv.ownBlock) (hB : B ≤ w.heap.size) : Wd B w0 w' :=
  k.trans ⟨b_grownO hg (fun x hx => (h.blk x hx).1) hB, KeepsBut.of_grown hg fun x hx => by
    obtain ⟨_, cs, hc⟩ := h.blk x hx
    exact ⟨cs, _, hc, by decide⟩⟩
theorem DeedX.grownT {w w' : World} {B mb db g : Nat} {a b c d : Int} {tv v' : Value} {V : Nat → Value} {D : Dn} {T : Tm} (h : DeedX w B mb db a b c d D) (ho : OpenX w B mb a b c tv g V D.m) (hg : w.grownBy w' tv.ownBlock)
    (hr : w'.ownsRow B 80 8 v' (D.m.tn + 1) (cellsT D.m.t D.m.tn ++ cellsT (fun _ => T) 1)) : DeedX (w'.setCell ⟨mb, 4, none⟩ v') B mb db a b c d ⟨addTm D.m T, D.h, D.v⟩ := by
  have e1 : w'.heap[db]? = w.heap[db]? := hg.block db h.lt (fun e => by
    obtain ⟨_, cs, hc⟩ := ho.t.blk db e.symm
    exact ne_ty h.e hc (by decide) rfl)
  exact h.mem ((heap_set1 w' mb _ _ db (ne_ty h.e ho.m (by decide))).trans e1) (ho.appT hg hr).own

abbrev tmNew (c b per kind : Int) : Obj := .cells #[.int .i64 2, .int .i64 (afterI c b), .int .i64 0, .int .i64 per, .int .i64 (-1), .int .i64 0, .int .i64 kind, .int .i64 0] 80

end Go.Proofs.YtflekodaiejflaaGreatDoor

/-
  A setting is counted, in the program.
-/
namespace Go.Proofs.YtflekodaiejflaaGreatDoor
open Go.RowKit Go.Joins
set_option linter.unusedVariables false
set_option linter.unusedSimpArgs false

set_option maxRecDepth 100000 in
set_option maxHeartbeats 2000000 in
theorem count_any {w : World} {b o : Nat} {G : Int} (h0 : 0 ≤ G) (h1 : G ≤ 100000) (hc : w.cell? ⟨b, o + 5, none⟩ = some (.int .i64 G)) (hf : w.frozen? ⟨b, o + 5, none⟩ = false) :
    Calls Tryz.prog 86 #[.pointer (some ⟨b, o, none⟩)] w fun e w' => e = .returned (.tuple #[]) ∧ w' = w.setCell ⟨b, o + 5, none⟩ (.int .i64 (minI (G + 1) 100000)) := by
  have hwr : IntKind.i64.wrap (G + 1) = G + 1 := by rw [IntKind.wrap_i64]; omega
  by_cases hl : 100000 < G + 1
  · have e : minI (G + 1) 100000 = 100000 := by unfold minI; rw [if_neg (by omega)]
    rw [e]
    go_enter Tryz.func86, Tryz.ntmps86
    go_wp2
    go_end0
    exact ⟨rfl, rfl⟩
  · have e : minI (G + 1) 100000 = G + 1 := by unfold minI; split <;> omega
    rw [e]
    go_enter Tryz.func86, Tryz.ntmps86
    go_wp2
    go_end0
    exact ⟨rfl, rfl⟩

end Go.Proofs.YtflekodaiejflaaGreatDoor

/-
  Tidying up, plainly (chapter 6): the program's ways and the model's come to the same memory. No Go in sight.
-/
namespace Go.Proofs.YtflekodaiejflaaGreatDoor
open Go.RowKit Go.Joins
set_option linter.unusedVariables false
set_option linter.unusedSimpArgs false

/-- a timer comes into a heap -/
def putM (M : Me) (t k : Nat) (wh : Int) : Me := setHp (setTm (setTm (setTm M t 0 1) t 1 wh) t 4 (k : Int)) k (pushedN (M.p k).n) (pushedF (M.p k).f (M.p k).n ((t : Int), wh))
/-- a timer is taken out of a heap -/
def takeM (M : Me) (t k : Nat) : Me := setTm (pullM M k (findFrom (M.p k).f (M.p k).n (t : Int) 0)) t 4 (-1)
theorem me_ext {M N : Me} (hc : M.c = N.c) (h1 : M.tn = N.tn) (h2 : M.pn = N.pn) (ht : ∀ i, M.t i = N.t i) (hp : ∀ i, M.p i = N.p i) : M = N := by
  cases M; cases N
  simp only [Me.mk.injEq]
  exact ⟨hc, h1, funext ht, h2, funext hp⟩
theorem put_push (M : Me) (t k : Nat) : putM M t k (M.t t).wh = pushM M t k :=
  me_ext rfl rfl rfl (fun i => by by_cases e : i = t <;> simp [putM, pushM, setHp, setTm, putT, e, tmSet]) (fun i => rfl)
theorem take_drop {M : Me} {t k i : Nat} (hf : findFrom (M.p k).f (M.p k).n (t : Int) 0 = (i : Int)) : setTm (takeM (setPc M k 3 ((M.p k).d - 1)) t k) t 0 7 = dropM M k i t := by
  have e1 : ((setPc M k 3 ((M.p k).d - 1)).p k).f = (M.p k).f := by rw [setPc_at]; rfl
  have e2 : ((setPc M k 3 ((M.p k).d - 1)).p k).n = (M.p k).n := by rw [setPc_at]; rfl
  unfold takeM
  rw [e1, e2, hf]
  refine me_ext rfl rfl rfl (fun x => ?_) (fun x => ?_)
  · by_cases e : x = t <;> simp [dropM, pullM, setPc, setHp, setTm, putT, e, tmSet]
  · by_cases e : x = k <;> simp [dropM, pullM, setPc, setHp, setTm, putP, e, pcSet]
theorem take_move {M : Me} {t k i : Nat} (hf : findFrom (M.p k).f (M.p k).n (t : Int) 0 = (i : Int)) : putM (takeM M t k) t k (M.t t).nx = moveM M k i t := by
  unfold takeM
  rw [hf]
  refine me_ext rfl rfl rfl (fun x => ?_) (fun x => ?_)
  · by_cases e : x = t <;> simp [moveM, putM, pushM, pullM, setHp, setTm, putT, e, tmSet]
  · by_cases e : x = k <;> simp [moveM, putM, pushM, pullM, setHp, setTm, putP, putT, e, tmSet]
theorem take_none {M : Me} {t k : Nat} (hpl : (M.t t).pl = (k : Int)) (hp : (M.t t).pe = 0) : setTm (takeM M t k) t 0 0 = rearmM M t := by
  have ek : (M.t t).pl.toNat = k := by rw [hpl]; rfl
  rw [rearmM, if_pos hp]
  unfold takeM outM
  rw [ek]
  refine me_ext rfl rfl rfl (fun x => ?_) (fun x => ?_)
  · by_cases e : x = t <;> simp [pullM, setHp, setTm, putT, e, tmSet]
  · rfl
theorem take_again {M : Me} {t k : Nat} (hpl : (M.t t).pl = (k : Int)) (hp : ¬ (M.t t).pe = 0) : putM (takeM M t k) t k (nextI M.c (M.t t)) = rearmM M t := by
  have ek : (M.t t).pl.toNat = k := by rw [hpl]; rfl
  rw [rearmM, if_neg hp]
  unfold takeM outM
  rw [ek]
  generalize nextI M.c (M.t t) = y
  refine me_ext rfl rfl rfl (fun x => ?_) (fun x => ?_)
  · by_cases e : x = t <;> simp [putM, pushM, pullM, setHp, setTm, putT, e, tmSet]
  · by_cases e : x = k <;> simp [putM, pushM, pullM, setHp, setTm, putP, putT, e, tmSet]
/-- the program's way to the next time -/
theorem next_after {c : Int} {t : Tm} {q : Int} (hw : 0 ≤ t.wh ∧ t.wh ≤ 1000000000) (hp : 0 < t.pe) (hq : timesI c t = q + 1) (hq0 : 0 ≤ q) : afterI t.wh ((q + 1) * t.pe) = nextI c t := by
  have h1 : t.pe * 1 ≤ t.pe * (q + 1) := Int.mul_le_mul_of_nonneg_left (by omega) (by omega)
  unfold nextI
  rw [hq, Int.mul_comm (q + 1) t.pe]
  generalize t.pe * (q + 1) = y at h1
  unfold afterI
  rw [if_pos (inB_t hw.1 hw.2)]
  unfold dl minI
  split <;> split <;> (try split) <;> (try split) <;> omega

end Go.Proofs.YtflekodaiejflaaGreatDoor

/-
  FnExactPushedOn, told what the program's own function answers.
-/
namespace Go.Proofs.YtflekodaiejflaaGreatDoor
open Go.RowKit Go.Joins
set_option linter.unusedVariables false
set_option linter.unusedSimpArgs false

/-! ### exPushed: a list and a word, asked of one list and one slot -/
theorem pushedN_le {n : Nat} (hn : n ≤ 1048576) : pushedN n ≤ 1048576 := by unfold pushedN; split <;> omega
/-- what the program's PushedOn is to answer -/
def Pushes (fn : FuncId) : Prop := ∀ (v : Value) (n : Nat) (f : Slots) (a b : Int) (w : World), n ≤ 1048576 → RowAt w v n f → Calls Tryz.prog fn #[v, .agg #[.int .i64 a, .int .i64 b]] w (NewRowB (pushedN n) (pushedF f n (a, b)) (decide (n < 30)) w)

end Go.Proofs.YtflekodaiejflaaGreatDoor

/-
  The program's heap (chapter 2): one slot more, at the end, and raised there.
-/
namespace Go.Proofs.YtflekodaiejflaaGreatDoor
open Go.RowKit Go.Joins
set_option linter.unusedVariables false
set_option linter.unusedSimpArgs false

/-- a heap in a variable of its own, in the block b -/
def HeapIn (w : World) (b : Nat) (v : Value) : Prop := w.heap[b]? = some (.cells #[v, dueV] 192 (0, 0))

/-- its list's block is no variable of a heap -/
theorem OwnAt.ne_heap {w : World} {B g n cap b : Nat} {f : Slots} {v : Value} (h : OwnAt w B g n cap f) (hb : HeapIn w b v) : b ≠ g := by
  rintro rfl
  obtain ⟨_, _, _, cur, hh, _⟩ := h
  rw [HeapIn, hh] at hb
  simp at hb

theorem OwnRow.ne_heap {w : World} {B n b : Nat} {f : Slots} {v u : Value} (h : OwnRow w B v n f) (hb : HeapIn w b u) : some b ≠ v.ownBlock := by
  rcases h with ⟨_, rfl⟩ | ⟨g, cap, rfl, h⟩
  · simp [Value.ownBlock]
  · intro e
    exact h.ne_heap hb (by simpa [Value.ownBlock] using e)
theorem OwnRow.ne_new {w : World} {B n b : Nat} {f : Slots} {v : Value} (h : OwnRow w B v n f) (hb : w.heap.size ≤ b) : some b ≠ v.ownBlock := by
  rcases h with ⟨_, rfl⟩ | ⟨g, cap, rfl, h⟩
  · simp [Value.ownBlock]
  · intro e
    have := h.lt
    simp [Value.ownBlock] at e
    omega

end Go.Proofs.YtflekodaiejflaaGreatDoor

/-
  The program's heap (chapter 2): one slot taken out.
-/
namespace Go.Proofs.YtflekodaiejflaaGreatDoor
open Go.RowKit Go.Joins
set_option linter.unusedVariables false
set_option linter.unusedSimpArgs false

/-- the last one in the place of the slot k, raised and sunk there: also where it was itself the last one -/
theorem pulled_same {f : Slots} {n k m : Nat} (hm : m = n - 1) (hk : k < m ∨ k = m) : sunkF (raisedF (putF f k (f m)) m k) m k = pulledF f n k := by
  subst hm
  rcases hk with hk | rfl
  · rw [pulledF_mid hk]
  · have hno : hasB (n - 1) ((n - 1 : Nat) : Int) = false := by
      cases h : hasB (n - 1) ((n - 1 : Nat) : Int)
      · rfl
      · have := hasB_iff.1 h; omega
    have hp : putF f (n - 1) (f (n - 1)) = f := by
      funext j
      by_cases e : j = n - 1
      · rw [e, putF_same]
      · exact putF_other f _ e
    rw [raisedF_no hno, sunkF_no hno, hp]
    by_cases hn : 0 < n
    · rw [pulledF_last (by omega) (by omega)]
    · have : n = 0 := by omega
      subst this
      rfl

end Go.Proofs.YtflekodaiejflaaGreatDoor

/-
  The program's PulledOff (chapter 2).
-/
namespace Go.Proofs.YtflekodaiejflaaGreatDoor
open Go.RowKit Go.Joins
set_option linter.unusedVariables false
set_option linter.unusedSimpArgs false

end Go.Proofs.YtflekodaiejflaaGreatDoor

/-
  Tidying up, in the program (chapter 6): into a heap, out of it; the top.
-/
namespace Go.Proofs.YtflekodaiejflaaGreatDoor
open Go.RowKit Go.Joins
set_option linter.unusedVariables false
set_option linter.unusedSimpArgs false

theorem OpenX.setT0 {w : World} {B mb tg n tc g : Nat} {a b c : Int} {V : Nat → Value} {M : Me} (h : OpenX w B mb a b c (.slice (some ⟨tg, 0, none⟩) n tc) g V M) {k : Nat} (hk : k < M.tn) (x : Int) :
    OpenX (w.setCell ⟨tg, k * 8, none⟩ (.int .i64 x)) B mb a b c (.slice (some ⟨tg, 0, none⟩) n tc) g V (setTm M k 0 x) := h.setT (j := 0) hk (by decide) x

end Go.Proofs.YtflekodaiejflaaGreatDoor

/-
  Tidying up, in the program (chapter 6): armed, rung, set to its next time; out of a heap for good, elsewhere in it.
-/
namespace Go.Proofs.YtflekodaiejflaaGreatDoor
open Go.RowKit Go.Joins
set_option linter.unusedVariables false
set_option linter.unusedSimpArgs false

theorem ret_i {a b : Int} (h : a = b) : Ending.returned (.int .i64 a) = .returned (.int .i64 b) := by rw [h]
theorem tm_eight {w : World} {b : Nat} {t : Tm} {ty : TypeId} (h : w.heap[b]? = some (.cells (tmCells t) ty (0, 0))) :
    w.cell? ⟨b, 0, none⟩ = some (.int .i64 t.st) ∧ w.cell? ⟨b, 1, none⟩ = some (.int .i64 t.wh) ∧ w.cell? ⟨b, 3, none⟩ = some (.int .i64 t.pe) ∧ w.cell? ⟨b, 4, none⟩ = some (.int .i64 t.pl) :=
  ⟨cell_of_block h 0, cell_of_block h 1, cell_of_block h 3, cell_of_block h 4⟩

end Go.Proofs.YtflekodaiejflaaGreatDoor

/-
  Who is new comes into its heap, in the program (chapter 9).
-/
namespace Go.Proofs.YtflekodaiejflaaGreatDoor
open Go.RowKit Go.Joins
set_option linter.unusedVariables false
set_option linter.unusedSimpArgs false

theorem DeedX.setT {w : World} {B mb db tg n tc g t j : Nat} {a b c d : Int} {V : Nat → Value} {D : Dn} (h : DeedX w B mb db a b c d D) (ho : OpenX w B mb a b c (.slice (some ⟨tg, 0, none⟩) n tc) g V D.m) (ht : t < D.m.tn) (hj : j < 8) (x : Int) :
    DeedX (w.setCell ⟨tg, t * 8 + j, none⟩ (.int .i64 x)) B mb db a b c d ⟨setTm D.m t j x, D.h, D.v⟩ := by
  have hn := ho.t.len
  subst hn
  obtain ⟨cs, hcs⟩ := ho.t.at.hh
  exact h.mem (heap_set1 w tg _ _ db (ne_ty h.e hcs (by decide))) (ho.setT ht hj x).own
theorem Wd.setT {B tg n tc mb g : Nat} {x y z : Int} {V : Nat → Value} {M : Me} {a w : World} (h : Wd B a w) (ho : OpenX w B mb x y z (.slice (some ⟨tg, 0, none⟩) n tc) g V M) (o : Nat) (u : Value) : Wd B a (w.setCell ⟨tg, o, none⟩ u) := by
  have hn := ho.t.len
  subst hn
  obtain ⟨cs, hcs⟩ := ho.t.at.hh
  exact h.set hcs ho.t.at.1 (by decide) o u
theorem setTm_swap (M : Me) (t : Nat) (x y : Int) : setTm (setTm M t 5 x) t 1 y = setTm (setTm M t 1 y) t 5 x := by
  unfold setTm
  congr 1
  funext i
  by_cases e : i = t
  · subst e; simp [putT, tmSet]
  · simp [putT, e]
theorem armedB_set {M : Me} {t j : Nat} (x : Int) (hj : j = 1 ∨ j = 5) : armedB (setTm M t j x) t = armedB M t := by
  unfold armedB
  rw [setTm_at]
  rcases hj with rfl | rfl <;> rfl
/-- the memory that is armed -/
def readyM (D : Dn) (t : Nat) : Me := if D.h.call.code = 3 then setTm (genM D.m t) t 1 D.h.whe else genM D.m t
theorem readyM_push (D : Dn) (t : Nat) (k : Nat) (e : D.h.tim = (t : Int)) : pushM (readyM D t) t k = pushedM D k := by
  unfold pushedM readyM keyedM
  have et : D.h.tim.toNat = t := by omega
  rw [et]
  by_cases hc : D.h.call.code = 3
  · rw [if_pos hc, if_pos hc]
    unfold genM
    rw [setTm_swap]
    have : ((setTm D.m t 1 D.h.whe).t t).ge = (D.m.t t).ge := by rw [setTm_at]; rfl
    rw [this]
  · rw [if_neg hc, if_neg hc]
theorem readyM_armed (D : Dn) (t : Nat) : armedB (readyM D t) t = armedB D.m t := by
  unfold readyM genM
  by_cases hc : D.h.call.code = 3
  · rw [if_pos hc, armedB_set _ (.inl rfl), armedB_set _ (.inr rfl)]
  · rw [if_neg hc, armedB_set _ (.inr rfl)]

end Go.Proofs.YtflekodaiejflaaGreatDoor

/-
  A timer is claimed, in the program (chapter 10).
-/
namespace Go.Proofs.YtflekodaiejflaaGreatDoor
open Go.RowKit Go.Joins
set_option linter.unusedVariables false
set_option linter.unusedSimpArgs false

set_option maxRecDepth 100000 in
set_option maxHeartbeats 4000000 in
theorem seizeD_any {w : World} {B mb db t : Nat} {a b c d : Int} {D : Dn} (hB : B ≤ w.heap.size) (ht : t < D.m.tn) (h : DeedX w B mb db a b c d D) :
    Calls Tryz.prog 112 #[ptrV db, .int .i64 (t : Int)] w fun e w' => e = .returned (.tuple #[]) ∧ InD B mb db a b c d ⟨setTm D.m t 0 2, { D.h with tim := (t : Int) }, D.v⟩ w w' := by
  obtain ⟨d0, _, _, _, _, _, _, _, _, _⟩ := h.cells
  obtain ⟨tv, g, V, ho⟩ := h.o.opened
  obtain ⟨tg, tc, rfl⟩ := ho.tms ht
  obtain ⟨m0, m1, m2, m3, m4, m5⟩ := six ho.m
  obtain ⟨⟨t0, _⟩, tf⟩ := ho.tcells ht
  have f0 := tf (t * 8)
  clear tf
  have i2 : (0 : Int) ≤ (t : Int) := by omega
  have i3 : (t : Int) < (D.m.tn : Int) := by omega
  go_enter Tryz.func112, Tryz.ntmps112
  go_upto_region 1 with fail
  have h3 : DeedX (w.setCell ⟨tg, t * 8, none⟩ (.int .i64 2)) B mb db a b c d ⟨setTm D.m t 0 2, D.h, D.v⟩ := h.setT ho ht (j := 0) (by decide) 2
  have k3 : Wd B w (w.setCell ⟨tg, t * 8, none⟩ (.int .i64 2)) := (Wd.refl B w).setT ho (t * 8) (.int .i64 2)
  clear h ho t0 f0 d0 m0 m1 m2 m3 m4 m5
  generalize w.setCell ⟨tg, t * 8, none⟩ (.int .i64 2) = w3 at h3 k3 ⊢
  have d7 : w3.cell? ⟨db, 7, none⟩ = some _ := cell_of_block h3.e 7
  have f7 := unfrozen_of_block h3.e 7
  have h4 := h3.setTim (t : Int)
  have k4 := k3.setD h3 7 (.int .i64 (t : Int))
  clear h3 k3
  go_wp2
  go_end0
  exact ⟨rfl, h4, k4⟩

end Go.Proofs.YtflekodaiejflaaGreatDoor

/-
  Is a step fit, in the program (chapter 9).
-/
namespace Go.Proofs.YtflekodaiejflaaGreatDoor
open Go.Deep Go.ChangeShapes Go.WideShapes Go.ChangeAt Go.RowKit Go.Joins
set_option linter.unusedVariables false
set_option linter.unusedSimpArgs false

set_option maxRecDepth 100000 in
set_option maxHeartbeats 8000000 in
theorem imFit_any (a b c d : Int) (h : Hd) {tv pv : Value} {M : Me} {w : World} (hs : sizeM M ≤ 1048576) (hm : MemAt w tv pv M) :
    Calls Tryz.prog 71 #[.agg #[.int .i64 a, .int .i64 b, .int .i64 c], meV M.c tv pv, .int .i64 d, hdV h] w fun e w' => e = .returned (.bool (stepFit a b c d M h)) ∧ Below w.heap.size w w' := by
  obtain ⟨va, vc, qa, qc, rfl, rfl⟩ := hm.form
  have hn := (sizeM_le hs).1
  have k0 := ((((Below.refl w.heap.size w).alloc (Nat.le_refl _) (.cells #[.int .i64 a, .int .i64 b, .int .i64 c] 46)).alloc (by simp) (.cells #[.int .i64 M.c, .slice va M.tn vc, .slice qa M.pn qc] 36)).alloc (by simp; omega) (.cells #[.int .i64 h.pos, .int .i64 h.call.code, .int .i64 h.call.a, .int .i64 h.call.b, .int .i64 h.call.c, .int .i64 h.tim, .int .i64 h.whe, .bool h.had, .int .i64 h.cnt, .int .i64 h.beg, .int .i64 h.rep, .int .i64 h.out] 39))
  have HM := Lib.hid (hm.below k0)
  clear hm
  cases h1 : memOkB a b c M
  · skip
    go_enter Tryz.func71, Tryz.ntmps71
    go_wp2_with fail
    go_at_call 101; refine (seen_any a b c hs HM.out).mono ?_; rintro x w1 ⟨mb, rfl, hS, hb⟩
    have HS := Lib.hid hS
    have HK := Lib.hid (k0.trans (hb.mono k0.size))
    have kk := Below.refl w1.heap.size w1
    obtain ⟨hc, hf⟩ := bcell hb
    have hz := hb.size
    simp at hz
    have lz0 : w.heap.size < w1.heap.size := by omega
    have lz1 : w.heap.size + 1 < w1.heap.size := by omega
    have lz2 : w.heap.size + 1 + 1 < w1.heap.size := by omega
    clear hS hb k0 hz
    go_wp2_with (first
      | (go_at_call 102; refine (memRight_any hs (HS.out.below kk)).mono ?_; rintro e w2 ⟨rfl, hb⟩; replace kk := kk.trans (hb.mono kk.size); clear hb; obtain ⟨hc2, hf2⟩ := bcell kk)
      | (go_at_call 103; refine (imHandOk_any _ _ _ _ _).mono ?_; rintro e w2 ⟨rfl, hb⟩; replace kk := kk.trans (hb.mono kk.size); clear hb; (try clear hc2 hf2); obtain ⟨hc2, hf2⟩ := bcell kk)
      | (go_at_call 104; refine (hasWorker_any _ _ _ _ _).mono ?_; rintro e w2 ⟨rfl, hb⟩; replace kk := kk.trans (hb.mono kk.size); clear hb; (try clear hc2 hf2); obtain ⟨hc2, hf2⟩ := bcell kk)
      | (go_at_call 105; refine (hasTimer_any hn (HS.out.below kk) _).mono ?_; rintro e w2 ⟨rfl, hb⟩; replace kk := kk.trans (hb.mono kk.size); clear hb; (try clear hc2 hf2); obtain ⟨hc2, hf2⟩ := bcell kk))
    go_ret
    exact ⟨ret_bool' (by simp [stepFit, h1]), HK.out.trans (kk.mono HK.out.size)⟩
  cases h2 : handB a b c h
  · skip
    go_enter Tryz.func71, Tryz.ntmps71
    go_wp2_with fail
    go_at_call 101; refine (seen_any a b c hs HM.out).mono ?_; rintro x w1 ⟨mb, rfl, hS, hb⟩
    have HS := Lib.hid hS
    have HK := Lib.hid (k0.trans (hb.mono k0.size))
    have kk := Below.refl w1.heap.size w1
    obtain ⟨hc, hf⟩ := bcell hb
    have hz := hb.size
    simp at hz
    have lz0 : w.heap.size < w1.heap.size := by omega
    have lz1 : w.heap.size + 1 < w1.heap.size := by omega
    have lz2 : w.heap.size + 1 + 1 < w1.heap.size := by omega
    clear hS hb k0 hz
    go_wp2_with (first
      | (go_at_call 102; refine (memRight_any hs (HS.out.below kk)).mono ?_; rintro e w2 ⟨rfl, hb⟩; replace kk := kk.trans (hb.mono kk.size); clear hb; obtain ⟨hc2, hf2⟩ := bcell kk)
      | (go_at_call 103; refine (imHandOk_any _ _ _ _ _).mono ?_; rintro e w2 ⟨rfl, hb⟩; replace kk := kk.trans (hb.mono kk.size); clear hb; (try clear hc2 hf2); obtain ⟨hc2, hf2⟩ := bcell kk)
      | (go_at_call 104; refine (hasWorker_any _ _ _ _ _).mono ?_; rintro e w2 ⟨rfl, hb⟩; replace kk := kk.trans (hb.mono kk.size); clear hb; (try clear hc2 hf2); obtain ⟨hc2, hf2⟩ := bcell kk)
      | (go_at_call 105; refine (hasTimer_any hn (HS.out.below kk) _).mono ?_; rintro e w2 ⟨rfl, hb⟩; replace kk := kk.trans (hb.mono kk.size); clear hb; (try clear hc2 hf2); obtain ⟨hc2, hf2⟩ := bcell kk))
    go_ret
    exact ⟨ret_bool' (by simp [stepFit, h1, h2]), HK.out.trans (kk.mono HK.out.size)⟩
  cases h3 : workB a b c d
  · skip
    go_enter Tryz.func71, Tryz.ntmps71
    go_wp2_with fail
    go_at_call 101; refine (seen_any a b c hs HM.out).mono ?_; rintro x w1 ⟨mb, rfl, hS, hb⟩
    have HS := Lib.hid hS
    have HK := Lib.hid (k0.trans (hb.mono k0.size))
    have kk := Below.refl w1.heap.size w1
    obtain ⟨hc, hf⟩ := bcell hb
    have hz := hb.size
    simp at hz
    have lz0 : w.heap.size < w1.heap.size := by omega
    have lz1 : w.heap.size + 1 < w1.heap.size := by omega
    have lz2 : w.heap.size + 1 + 1 < w1.heap.size := by omega
    clear hS hb k0 hz
    go_wp2_with (first
      | (go_at_call 102; refine (memRight_any hs (HS.out.below kk)).mono ?_; rintro e w2 ⟨rfl, hb⟩; replace kk := kk.trans (hb.mono kk.size); clear hb; obtain ⟨hc2, hf2⟩ := bcell kk)
      | (go_at_call 103; refine (imHandOk_any _ _ _ _ _).mono ?_; rintro e w2 ⟨rfl, hb⟩; replace kk := kk.trans (hb.mono kk.size); clear hb; (try clear hc2 hf2); obtain ⟨hc2, hf2⟩ := bcell kk)
      | (go_at_call 104; refine (hasWorker_any _ _ _ _ _).mono ?_; rintro e w2 ⟨rfl, hb⟩; replace kk := kk.trans (hb.mono kk.size); clear hb; (try clear hc2 hf2); obtain ⟨hc2, hf2⟩ := bcell kk)
      | (go_at_call 105; refine (hasTimer_any hn (HS.out.below kk) _).mono ?_; rintro e w2 ⟨rfl, hb⟩; replace kk := kk.trans (hb.mono kk.size); clear hb; (try clear hc2 hf2); obtain ⟨hc2, hf2⟩ := bcell kk))
    go_ret
    exact ⟨ret_bool' (by simp [stepFit, h1, h2, h3]), HK.out.trans (kk.mono HK.out.size)⟩
  by_cases h4 : h.tim = -1
  case pos =>
    have h4b : (h.tim == -1) = true := by simpa using h4
    have H4 := Lib.hid h4
    clear h4
    go_enter Tryz.func71, Tryz.ntmps71
    go_wp2_with fail
    go_at_call 101; refine (seen_any a b c hs HM.out).mono ?_; rintro x w1 ⟨mb, rfl, hS, hb⟩
    have HS := Lib.hid hS
    have HK := Lib.hid (k0.trans (hb.mono k0.size))
    have kk := Below.refl w1.heap.size w1
    obtain ⟨hc, hf⟩ := bcell hb
    have hz := hb.size
    simp at hz
    have lz0 : w.heap.size < w1.heap.size := by omega
    have lz1 : w.heap.size + 1 < w1.heap.size := by omega
    have lz2 : w.heap.size + 1 + 1 < w1.heap.size := by omega
    clear hS hb k0 hz
    go_wp2_with (first
      | (go_at_call 102; refine (memRight_any hs (HS.out.below kk)).mono ?_; rintro e w2 ⟨rfl, hb⟩; replace kk := kk.trans (hb.mono kk.size); clear hb; obtain ⟨hc2, hf2⟩ := bcell kk)
      | (go_at_call 103; refine (imHandOk_any _ _ _ _ _).mono ?_; rintro e w2 ⟨rfl, hb⟩; replace kk := kk.trans (hb.mono kk.size); clear hb; (try clear hc2 hf2); obtain ⟨hc2, hf2⟩ := bcell kk)
      | (go_at_call 104; refine (hasWorker_any _ _ _ _ _).mono ?_; rintro e w2 ⟨rfl, hb⟩; replace kk := kk.trans (hb.mono kk.size); clear hb; (try clear hc2 hf2); obtain ⟨hc2, hf2⟩ := bcell kk)
      | (go_at_call 105; refine (hasTimer_any hn (HS.out.below kk) _).mono ?_; rintro e w2 ⟨rfl, hb⟩; replace kk := kk.trans (hb.mono kk.size); clear hb; (try clear hc2 hf2); obtain ⟨hc2, hf2⟩ := bcell kk))
    go_ret
    exact ⟨ret_bool' (by simp [stepFit, h1, h2, h3, H4.out]), HK.out.trans (kk.mono HK.out.size)⟩
  have h4b : (h.tim == -1) = false := by simpa using h4
  go_enter Tryz.func71, Tryz.ntmps71
  go_wp2_with fail
  go_at_call 101; refine (seen_any a b c hs HM.out).mono ?_; rintro x w1 ⟨mb, rfl, hS, hb⟩
  have HS := Lib.hid hS
  have HK := Lib.hid (k0.trans (hb.mono k0.size))
  have kk := Below.refl w1.heap.size w1
  obtain ⟨hc, hf⟩ := bcell hb
  have hz := hb.size
  simp at hz
  have lz0 : w.heap.size < w1.heap.size := by omega
  have lz1 : w.heap.size + 1 < w1.heap.size := by omega
  have lz2 : w.heap.size + 1 + 1 < w1.heap.size := by omega
  clear hS hb k0 hz
  go_wp2_with (first
    | (go_at_call 102; refine (memRight_any hs (HS.out.below kk)).mono ?_; rintro e w2 ⟨rfl, hb⟩; replace kk := kk.trans (hb.mono kk.size); clear hb; obtain ⟨hc2, hf2⟩ := bcell kk)
    | (go_at_call 103; refine (imHandOk_any _ _ _ _ _).mono ?_; rintro e w2 ⟨rfl, hb⟩; replace kk := kk.trans (hb.mono kk.size); clear hb; (try clear hc2 hf2); obtain ⟨hc2, hf2⟩ := bcell kk)
    | (go_at_call 104; refine (hasWorker_any _ _ _ _ _).mono ?_; rintro e w2 ⟨rfl, hb⟩; replace kk := kk.trans (hb.mono kk.size); clear hb; (try clear hc2 hf2); obtain ⟨hc2, hf2⟩ := bcell kk)
    | (go_at_call 105; refine (hasTimer_any hn (HS.out.below kk) _).mono ?_; rintro e w2 ⟨rfl, hb⟩; replace kk := kk.trans (hb.mono kk.size); clear hb; (try clear hc2 hf2); obtain ⟨hc2, hf2⟩ := bcell kk))
  go_ret
  exact ⟨ret_bool' (by simp [stepFit, h1, h2, h3, h4]), HK.out.trans (kk.mono HK.out.size)⟩

end Go.Proofs.YtflekodaiejflaaGreatDoor

/-
  A memory, later (spec, chapter 5).
-/
namespace Go.Proofs.YtflekodaiejflaaGreatDoor
open Go.RowKit Go.Joins
set_option linter.unusedVariables false
set_option linter.unusedSimpArgs false

def elapsedM (a b c d : Int) (M : Me) : Me := if memOkB a b c M then ⟨minI (afterI M.c d) 999999999, M.tn, M.t, M.pn, M.p⟩ else me0

end Go.Proofs.YtflekodaiejflaaGreatDoor

/-
  A law's memory that came in, opened; the rows of the exact laws on memories.
-/
namespace Go.Proofs.YtflekodaiejflaaGreatDoor
open Go.RowKit Go.Joins Go.ChangeShapes Go.WideShapes Go.ChangeAt Go.Deep
set_option linter.unusedVariables false
set_option linter.unusedSimpArgs false

set_option maxRecDepth 100000 in
/-- a law's list of slots, read as a field -/
theorem slots_fieldM {H : Type} {enc : TypeId × Value → H} {W : World} {fuel : Nat} {v : Value} {y : DataW H × List MemPlace}
    (hf : DataW.trod enc Tryz.prog W 0 (fun _ => true) true fuel 73 [v] = some y) :
    ∃ (n : Nat) (f : Slots) (a : Option Addr) (cap : Nat), n ≤ maxLen ∧ v = .slice a n cap ∧ RowAt W v n f := by
  obtain ⟨a, len, cap, hv⟩ := slice_form Tryz.underlying73 hf
  simp at hv
  subst hv
  obtain ⟨y1, y2⟩ := y
  rcases Go.Deep.open_slice_pairs Tryz.underlying73 Tryz.underlying146 (by kernel_rfl) rfl rfl (by kernel_rfl) (by kernel_rfl) hf with ⟨hcs, _⟩ | ⟨x, l, c, m, k, V0, V1, D0, D1, P0, P1, hcs, _, hl, hm, hmm, _, hc⟩
  · simp at hcs
    obtain ⟨rfl, rfl, rfl⟩ := hcs
    exact ⟨0, fun _ => (0, 0), _, _, Nat.zero_le _, rfl, .inl ⟨rfl, _, _, rfl⟩⟩
  · simp at hcs
    obtain ⟨rfl, rfl, rfl⟩ := hcs
    simp at hmm
    subst hmm
    refine ⟨len, fun i => (intOf (V0 i), intOf (V1 i)), _, _, Nat.le_trans hl hm, rfl, ?_⟩
    rcases Nat.eq_zero_or_pos len with rfl | hp
    · exact .inl ⟨rfl, _, _, rfl⟩
    · obtain ⟨b, off, spot⟩ := x
      have hspot : spot = none := by
        have := (hc 0 (by omega)).1
        simpa [Addr.add] using World.cell?_spot this
      subst hspot
      refine .inr ⟨b, off, _, rfl, ?_, fun i hi => ?_⟩
      · have := (hc 0 (by omega)).1
        rw [Go.WideShapes.add_plain] at this
        exact World.block_lt_of_cell? W _ this
      · obtain ⟨h0, h1, t0, t1⟩ := hc i (by omega)
        rw [Go.WideShapes.add_plain] at h0 h1
        obtain ⟨x0, e0, _, _⟩ := DataW.trod_int Tryz.underlying2 t0
        obtain ⟨x1, e1, _, _⟩ := DataW.trod_int Tryz.underlying2 t1
        simp at e0 e1
        rw [e0] at h0
        rw [e1] at h1
        simp only [e0, e1]
        exact ⟨h0, by rw [Nat.add_assoc]; exact h1⟩

theorem eight_at {zs : List Int} (h : zs.length = 8) : ∃ t : Tm, ∀ j, j < 8 → (numsV zs)[j]? = some (.int .i64 (tmAt t j)) := by
  match zs, h with
  | [a, b, c, d, e, f, g, k], _ => exact ⟨⟨a, b, c, d, e, f, g, k⟩, below8 rfl rfl rfl rfl rfl rfl rfl rfl⟩

set_option maxRecDepth 100000 in
/-- a law's list of timers, read as a field -/
theorem timers_field {H : Type} {enc : TypeId × Value → H} {W : World} {fuel : Nat} {v : Value} {y : DataW H × List MemPlace}
    (hf : DataW.trod enc Tryz.prog W 0 (fun _ => true) true fuel 24 [v] = some y) :
    ∃ (n : Nat) (f : Tms), n ≤ maxLen ∧ RowTAt W v n f := by
  have c8 : Tryz.prog.cellsOf 87 = 8 := by kernel_rfl
  obtain ⟨y1, y2⟩ := y
  rcases Go.Deep.open_slice Tryz.underlying24 hf with ⟨hcs, _⟩ | ⟨x, len, cap, m, k, D, Pl, hcs, _, hl, hm, hmm, _, hc⟩
  · simp at hcs
    subst hcs
    exact ⟨0, fun _ => tm0, Nat.zero_le _, .inl ⟨rfl, _, _, rfl⟩⟩
  · simp at hcs hmm
    subst hcs hmm
    have each : ∀ i, i < m → ∃ t : Tm, ∀ j, j < 8 → W.cell? ((x.add (i * 8)).add j) = some (.int .i64 (tmAt t j)) := by
      intro i hi
      obtain ⟨cs', h1, h2⟩ := hc i hi
      rw [c8] at h1
      obtain ⟨_, hlen, hcell⟩ := World.cells?_some h1
      obtain ⟨zs, hz, rfl, _, _⟩ := trod_flat Tryz.underlying87 (I := 2) (by kernel_rfl) Tryz.underlying2 (by kernel_rfl) (by kernel_rfl) h2
      obtain ⟨t, ht⟩ := eight_at hz
      exact ⟨t, fun j hj => (hcell j (by omega)).trans (ht j hj)⟩
    haveI : Inhabited Tm := ⟨tm0⟩
    obtain ⟨f, hfx⟩ := choose_lt each
    refine ⟨len, f, Nat.le_trans hl hm, ?_⟩
    rcases Nat.eq_zero_or_pos len with rfl | hp
    · exact .inl ⟨rfl, _, _, rfl⟩
    · obtain ⟨b, off, spot⟩ := x
      have h00 := hfx 0 (by omega) 0 (by decide)
      have hspot : spot = none := by simpa [Addr.add] using World.cell?_spot h00
      subst hspot
      have h0 := h00
      rw [Go.WideShapes.add_plain, Go.WideShapes.add_plain] at h0
      refine .inr ⟨b, off, _, rfl, World.block_lt_of_cell? W _ h0, fun i hi j hj => ?_⟩
      have := hfx i (by omega) j hj
      rw [Go.WideShapes.add_plain, Go.WideShapes.add_plain] at this
      exact this

set_option maxRecDepth 100000 in
/-- a law's list of processors, read as a field -/
theorem procs_field {H : Type} {enc : TypeId × Value → H} {W : World} {fuel : Nat} {v : Value} {y : DataW H × List MemPlace}
    (hf : DataW.trod enc Tryz.prog W 0 (fun _ => true) true fuel 25 [v] = some y) :
    ∃ (m : Nat) (P : Pcs), m ≤ maxLen ∧ (∀ i, i < m → (P i).n ≤ maxLen) ∧ RowPAt W v m P := by
  have c4 : Tryz.prog.cellsOf 75 = 4 := by kernel_rfl
  obtain ⟨y1, y2⟩ := y
  rcases Go.Deep.open_slice Tryz.underlying25 hf with ⟨hcs, _⟩ | ⟨x, len, cap, m, k, D, Pl, hcs, _, hl, hm, hmm, _, hc⟩
  · simp at hcs
    subst hcs
    exact ⟨0, fun _ => pc0, Nat.zero_le _, fun i hi => by omega, .inl ⟨rfl, _, _, rfl⟩⟩
  · simp at hcs hmm
    subst hcs hmm
    have each : ∀ i, i < m → ∃ p : Pc, p.n ≤ maxLen ∧ ∃ a c, W.cell? ((x.add (i * 4)).add 0) = some (.slice a p.n c) ∧ W.cell? ((x.add (i * 4)).add 1) = some (.int .i64 p.l) ∧ W.cell? ((x.add (i * 4)).add 2) = some (.int .i64 p.e) ∧ W.cell? ((x.add (i * 4)).add 3) = some (.int .i64 p.d) ∧ RowAt W (.slice a p.n c) p.n p.f := by
      intro i hi
      obtain ⟨cs', h1, h2⟩ := hc i hi
      rw [c4] at h1
      obtain ⟨_, hlen, hcell⟩ := World.cells?_some h1
      obtain ⟨xs, n1, _, _, _, hxl, hfx⟩ := DataW.trod_struct Tryz.underlying75 h2
      match cs', hlen with
      | [u0, u1, u2, u3], _ =>
        have g0 := hfx 0 _ rfl
        have g1 := hfx 1 _ rfl
        have g2 := hfx 2 _ rfl
        have g3 := hfx 3 _ rfl
        match xs, hxl with
        | [z0, z1, z2, z3], _ =>
          have k0 : Tryz.prog.cellsOf 73 = 1 := by kernel_rfl
          have k1 : Tryz.prog.cellsOf 2 = 1 := by kernel_rfl
          simp [k0, k1] at g0 g1 g2 g3
          obtain ⟨n, f, a, c, hn, rfl, hr⟩ := slots_fieldM g0
          obtain ⟨x1, e1, _, _⟩ := DataW.trod_int Tryz.underlying2 g1
          obtain ⟨x2, e2, _, _⟩ := DataW.trod_int Tryz.underlying2 g2
          obtain ⟨x3, e3, _, _⟩ := DataW.trod_int Tryz.underlying2 g3
          simp at e1 e2 e3
          subst e1 e2 e3
          exact ⟨⟨n, f, x1, x2, x3⟩, hn, a, c, hcell 0 (by omega), hcell 1 (by omega), hcell 2 (by omega), hcell 3 (by omega), hr⟩
    haveI : Inhabited Pc := ⟨pc0⟩
    obtain ⟨P, hP⟩ := choose_lt each
    refine ⟨len, P, Nat.le_trans hl hm, fun i hi => (hP i (by omega)).1, ?_⟩
    rcases Nat.eq_zero_or_pos len with rfl | hp
    · exact .inl ⟨rfl, _, _, rfl⟩
    · obtain ⟨b, off, spot⟩ := x
      obtain ⟨_, a0, c0, h00, _⟩ := hP 0 (by omega)
      have hspot : spot = none := by simpa [Addr.add] using World.cell?_spot h00
      subst hspot
      have h0 := h00
      rw [Go.WideShapes.add_plain, Go.WideShapes.add_plain] at h0
      refine .inr ⟨b, off, _, rfl, World.block_lt_of_cell? W _ h0, fun i hi => ?_⟩
      obtain ⟨_, a, c, g0, g1, g2, g3, hr⟩ := hP i (by omega)
      rw [Go.WideShapes.add_plain, Go.WideShapes.add_plain] at g0 g1 g2 g3
      exact ⟨a, c, g0, g1, g2, g3, hr⟩

set_option maxRecDepth 100000 in
/-- a law's memory that came in -/
theorem mem_in {H : Type} {enc : TypeId × Value → H} {W : World} {base : Nat} {v : Value} {d : DataW H} {p : List MemPlace}
    (hv : Value.okWide Tryz.prog W .any base 27 v) (h : DataW.Trod enc Tryz.prog W 0 (fun _ => true) true 27 v d p) :
    ∃ (tv pv : Value) (M : Me), v = meV M.c tv pv ∧ M.tn ≤ maxLen ∧ M.pn ≤ maxLen ∧ (∀ i, i < M.pn → (M.p i).n ≤ maxLen) ∧ MemAt W tv pv M := by
  obtain ⟨c0, tv, pv, y0, y1, y2, m, rfl, _, _, h0, h1, h2⟩ := open_agg3 Tryz.underlying27 (by kernel_rfl) (by kernel_rfl) hv h
  obtain ⟨x, e0, _, _⟩ := DataW.trod_int Tryz.underlying2 h0
  simp at e0
  subst e0
  obtain ⟨tn, t, htn, hT⟩ := timers_field h1
  obtain ⟨pn, P, hpn, hn, hP⟩ := procs_field h2
  exact ⟨tv, pv, ⟨x, tn, t, pn, P⟩, rfl, htn, hpn, hn, hT, hP⟩

set_option maxRecDepth 100000 in
/-- a law's plan that came in -/
theorem plan_inM {H : Type} {enc : TypeId × Value → H} {W : World} {base : Nat} {v : Value} {d : DataW H} {p : List MemPlace}
    (hv : Value.okWide Tryz.prog W .any base 23 v) (h : DataW.Trod enc Tryz.prog W 0 (fun _ => true) true 23 v d p) :
    ∃ a b c : Int, v = .agg #[.int .i64 a, .int .i64 b, .int .i64 c] := by
  obtain ⟨c0, c1, c2, y0, y1, y2, m, rfl, _, _, h0, h1, h2⟩ := open_agg3 Tryz.underlying23 (by kernel_rfl) (by kernel_rfl) hv h
  obtain ⟨x, e1, _, _⟩ := DataW.trod_int Tryz.underlying2 h0
  obtain ⟨y, e2, _, _⟩ := DataW.trod_int Tryz.underlying2 h1
  obtain ⟨z, e3, _, _⟩ := DataW.trod_int Tryz.underlying2 h2
  simp at e1 e2 e3
  subst e1 e2 e3
  exact ⟨x, y, z, rfl⟩

end Go.Proofs.YtflekodaiejflaaGreatDoor

/-
  FnExactNewMem, told what the program answers.
-/
namespace Go.Proofs.YtflekodaiejflaaGreatDoor
open Go.RowKit Go.Joins Go.ChangeShapes Go.WideShapes Go.ChangeAt Go.Deep
set_option linter.unusedVariables false
set_option linter.unusedSimpArgs false

/-- what the program's NewMem is to answer -/
def AsksNM (fn : FuncId) : Prop := ∀ (a b c : Int) (w : World), Calls Tryz.prog fn #[.agg #[.int .i64 a, .int .i64 b, .int .i64 c]] w (NewMe (newM a b c) w)
theorem sizeM_new (a b c : Int) : sizeM (newM a b c) ≤ 1048576 := by
  unfold newM
  split
  · rename_i h
    have := planB_iff.1 h
    have key : ∀ k, slotsP (fun _ => (⟨0, fun _ => (0, 0), -1, -1, 0⟩ : Pc)) k = 0 := by
      intro k
      induction k with
      | zero => rfl
      | succ k ih => rw [slotsP, ih]; rfl
    unfold sizeM
    simp only [key]
    omega
  · decide

end Go.Proofs.YtflekodaiejflaaGreatDoor

/-
  A memory as the program works with it (chapter 5): shown, later, new: Elapsed and NewMem.
-/
namespace Go.Proofs.YtflekodaiejflaaGreatDoor
open Go.RowKit Go.Joins
set_option linter.unusedVariables false
set_option linter.unusedSimpArgs false

set_option maxRecDepth 100000 in
set_option maxHeartbeats 1000000 in
theorem pxShown_any {v : Value} {n : Nat} (l e d : Int) {w : World} (hv : ∃ a cap, v = .slice a n cap) :
    Calls Tryz.prog 108 #[pxV v l e d] w fun x w' => x = .returned (prV v l e d) ∧ Below w.heap.size w w' := by
  obtain ⟨a, cap, rfl⟩ := hv
  have k0 := (Below.refl w.heap.size w).alloc (Nat.le_refl _) (pxB (.slice a n cap) l e d)
  have hR := heap_alloc_new (w.alloc (pxB (.slice a n cap) l e d)) (.cells #[.slice a n cap, .int .i64 l, .int .i64 e, .int .i64 d] 83)
  rw [show (w.alloc (pxB (.slice a n cap) l e d)).heap.size = w.heap.size + 1 by simp] at hR
  obtain ⟨r0, r1, r2, r3, _, _, _, _⟩ := four hR
  go_enter Tryz.func108, Tryz.ntmps108
  go_wp2
  exact bodyPost_ret (v := prV (.slice a n cap) l e d) (by simp [results, Tryz.results108, go_sem, r0, r1, r2, r3]) rfl ⟨rfl, k0.alloc k0.size _⟩

abbrev madeP (n : Nat) : Obj := .cells (madeCells #[.slice none 0 0, .int .i64 0, .int .i64 0, .int .i64 0] (n * 4)) 83

set_option maxRecDepth 100000 in
set_option maxHeartbeats 8000000 in
theorem memShown_any {B mb : Nat} {a b c : Int} {M : Me} {w : World} (hs : sizeM M ≤ 1048576) (hB : B ≤ w.heap.size) (h : OwnedAt w B mb a b c M) :
    Calls Tryz.prog 73 #[ptrV mb] w fun x w' => ∃ tv pv, x = .returned (meV M.c tv pv) ∧ OwnMem w' B tv pv M ∧ Below w.heap.size w w' := by
  obtain ⟨htn, hpn, hsl, hns⟩ := sizeM_le hs
  obtain ⟨tv, g, V, hmB, hM, hT, hL, hH⟩ := h
  obtain ⟨ta, tc, htv⟩ := hT.row.form
  subst htv
  have hmk := run_make_procs M.pn hpn
  have lM := lt_of_block hM
  have e0 : (w.alloc (memO 0 (.slice none 0 0) (.slice none 0 0) 36)).heap.size = w.heap.size + 1 := by simp
  have k0 := (Below.refl w.heap.size w).alloc (Nat.le_refl _) (memO 0 (.slice none 0 0) (.slice none 0 0) 36)
  have hR := alloc_block (madeP M.pn) (heap_alloc_new w (memO 0 (.slice none 0 0) (.slice none 0 0) 36))
  have k1 := k0.alloc k0.size (madeP M.pn)
  have hN := (list_made (w.alloc (memO 0 (.slice none 0 0) (.slice none 0 0) 36)) M.pn (by unfold maxLen; omega)).congr (Q := upToP M.p 0) (U := fun _ => .slice none 0 0) (fun i hi => by simp [upToP]) (fun _ _ => rfl)
  rw [e0] at hN
  have HM := Lib.hid hM
  have HL := Lib.hid hL
  have HH := Lib.hid hH
  have HT := Lib.hid hT
  obtain ⟨m0, m1, m2, m3, m4, m5⟩ := six (b_block k0 hM lM)
  obtain ⟨n0, n1, n2, n3, n4, n5⟩ := six (b_block k1 hM lM)
  clear hM hL hH hT hns hsl
  go_enter Tryz.func73, Tryz.ntmps73
  go_wp2_with fail
  generalize (w.alloc (memO 0 (.slice none 0 0) (.slice none 0 0) 36)).alloc (madeP M.pn) = w2 at k1 hR hN n0 n1 n2 n3 n4 n5 ⊢
  clear m0 m1 m2 m3 m4 m5 k0 hmk e0
  go_wp2_with fail
  clear n0 n1 n2 n3 n4 n5
  go_loopw [17] (fun i wr => ∃ (k : Nat) (U : Nat → Value), k ≤ M.pn ∧ i = .int .i64 k ∧ wr.heap[w.heap.size]? = some (memO 0 (.slice none 0 0) (.slice none 0 0) 36) ∧ ListAt wr (w.heap.size + 1) (w.heap.size + 1) M.pn M.pn (upToP M.p k) U ∧ (∀ i, i < k → U i = V i) ∧ Below w.heap.size w wr) (fun i _ => M.pn - (intOf i).toNat)
  case atStart => exact ⟨0, _, Nat.zero_le _, rfl, hR, hN, fun i hi => absurd hi (Nat.not_lt_zero _), k1⟩
  case round =>
    clear hR hN k1
    obtain ⟨k, U, hk, rfl, hR, hN, hU, kw⟩ := hrel
    obtain ⟨n0, n1, n2, n3, n4, n5⟩ := six (b_block kw HM.out lM)
    by_cases hlt : k < M.pn
    · have i1 : (k : Int) < (M.pn : Int) := by omega
      have i0 : (0 : Int) ≤ (k : Int) := by omega
      have hO := HH.out.1 k hlt
      obtain ⟨oa, oc, ho⟩ := hO.value
      have hLr := HL.out.below kw
      obtain ⟨d0, d1, d2, d3⟩ := hLr.cells hlt
      rw [ho] at d1
      have hNa := hN.below ((Below.refl wr.heap.size wr).alloc (Nat.le_refl _) (pxB (.slice oa (M.p k).n oc) (M.p k).l (M.p k).e (M.p k).d))
      have hRa := alloc_block (pxB (.slice oa (M.p k).n oc) (M.p k).l (M.p k).e (M.p k).d) hR
      have ka := kw.alloc kw.size (pxB (.slice oa (M.p k).n oc) (M.p k).l (M.p k).e (M.p k).d)
      have hX := heap_alloc_new wr (pxB (.slice oa (M.p k).n oc) (M.p k).l (M.p k).e (M.p k).d)
      obtain ⟨x0, x1, x2, x3, _, _, _, _⟩ := four hX
      go_wp2_with fail
      go_at_call 108; refine (pxShown_any _ _ _ ⟨_, _, rfl⟩).mono ?_; rintro x w5 ⟨rfl, hb⟩
      have hN5 := hNa.below hb
      have hR5 := b_block hb hRa (lt_of_block hRa)
      have k5 := ka.trans (hb.mono ka.size)
      have fr := hN5.free
      have f0 := fr (k * 4); have f1 := fr (k * 4 + 1); have f2 := fr (k * 4 + 2); have f3 := fr (k * 4 + 3)
      obtain ⟨c0, c1, c2, c3⟩ := hN5.cells hlt
      have hNn := (hN5.put hlt (.slice oa (M.p k).n oc) (M.p k)).congr (upToP_put (P := M.p)) (fun _ _ => rfl)
      have hRn := (heap_setP w5 (w.heap.size + 1) k (.slice oa (M.p k).n oc) (M.p k).l (M.p k).e (M.p k).d (x := w.heap.size) (by omega)).trans hR5
      have kn := b_setP k5 (g := w.heap.size + 1) (by omega) k (.slice oa (M.p k).n oc) (M.p k).l (M.p k).e (M.p k).d
      have hUn : ∀ i, i < k + 1 → putV U k (.slice oa (M.p k).n oc) i = V i := fun i hi => by
        by_cases e : i = k
        · subst e; rw [putV_same, ho]
        · rw [putV_other U _ e]; exact hU i (by omega)
      clear hb fr d0 d1 d2 d3 x0 x1 x2 x3 n0 n1 n2 n3 n4 n5 hN5 hR5 hNa hRa ka k5 hX
      go_wp2
      exact ⟨⟨k + 1, _, by omega, by go_num, hRn, hNn, hUn, kn⟩, by simp only [intOf]; omega⟩
    · have hkn : k = M.pn := by omega
      subst hkn
      have i1 : ¬ (M.pn : Int) < (M.pn : Int) := by omega
      have hNf := hN.congr (Q := M.p) (U := V) (fun i hi => by simp [upToP, hi]) (fun i hi => hU i hi)
      have lR := lt_of_block hR
      have ks := b_set3 kw (Nat.le_refl _) (.int .i64 M.c) (.slice ta M.tn tc) (.slice (some ⟨w.heap.size + 1, 0, none⟩) M.pn M.pn)
      have hTf := HT.out.below kw
      have hHf := HH.out.below kw
      obtain ⟨r0, r1, r2, rf0, rf1, rf2⟩ := three hR
      go_wp2_with fail
      go_region
      have hTn := hTf.other (w' := (((wr.setCell ⟨w.heap.size, 0, none⟩ (.int .i64 M.c)).setCell ⟨w.heap.size, 1, none⟩ (.slice ta M.tn tc)).setCell ⟨w.heap.size, 2, none⟩ (.slice (some ⟨w.heap.size + 1, 0, none⟩) M.pn M.pn)).drew) hR (by decide) (fun y hy => heap_set3 wr _ _ _ _ hy)
      have hHn : HeapsAt (((wr.setCell ⟨w.heap.size, 0, none⟩ (.int .i64 M.c)).setCell ⟨w.heap.size, 1, none⟩ (.slice ta M.tn tc)).setCell ⟨w.heap.size, 2, none⟩ (.slice (some ⟨w.heap.size + 1, 0, none⟩) M.pn M.pn)).drew B M.pn M.p V :=
        hHf.other (fun i hi x hx => heap_set3 wr _ _ _ _ (own_ne (hHf.1 i hi) hR (by decide) x hx))
      have hLn : ListAt (((wr.setCell ⟨w.heap.size, 0, none⟩ (.int .i64 M.c)).setCell ⟨w.heap.size, 1, none⟩ (.slice ta M.tn tc)).setCell ⟨w.heap.size, 2, none⟩ (.slice (some ⟨w.heap.size + 1, 0, none⟩) M.pn M.pn)).drew B (w.heap.size + 1) M.pn M.pn M.p V :=
        (hNf.mono (by omega)).block (heap_set3 wr w.heap.size _ _ _ (by omega))
      have hRn : (((wr.setCell ⟨w.heap.size, 0, none⟩ (.int .i64 M.c)).setCell ⟨w.heap.size, 1, none⟩ (.slice ta M.tn tc)).setCell ⟨w.heap.size, 2, none⟩ (.slice (some ⟨w.heap.size + 1, 0, none⟩) M.pn M.pn)).drew.heap[w.heap.size]? = some (memO M.c (.slice ta M.tn tc) (.slice (some ⟨w.heap.size + 1, 0, none⟩) M.pn M.pn) 36) := block_set3 hR
      have kn := ks.drew
      clear r0 r1 r2 rf0 rf1 rf2
      obtain ⟨r0, r1, r2, _, _, _⟩ := three hRn
      generalize (((wr.setCell ⟨w.heap.size, 0, none⟩ (.int .i64 M.c)).setCell ⟨w.heap.size, 1, none⟩ (.slice ta M.tn tc)).setCell ⟨w.heap.size, 2, none⟩ (.slice (some ⟨w.heap.size + 1, 0, none⟩) M.pn M.pn)).drew = wz at hTn hHn hLn r0 r1 r2 kn ⊢
      go_wp2
      exact bodyPost_ret (v := meV M.c (.slice ta M.tn tc) (.slice (some ⟨w.heap.size + 1, 0, none⟩) M.pn M.pn)) (by simp [results, Tryz.results73, go_sem, r0, r1, r2]) rfl ⟨_, _, rfl, ⟨hTn, .inr ⟨_, _, V, rfl, hLn, hHn⟩⟩, kn⟩

end Go.Proofs.YtflekodaiejflaaGreatDoor

/-
  A step while it is made, in the program (chapter 9): begun, and shown.
-/
namespace Go.Proofs.YtflekodaiejflaaGreatDoor
open Go.Deep Go.RowKit Go.Joins
set_option linter.unusedVariables false
set_option linter.unusedSimpArgs false

set_option maxRecDepth 100000 in
set_option maxHeartbeats 8000000 in
theorem newDeed_no (a b c d : Int) (h : Hd) {tv pv : Value} {M : Me} {w : World} (hs : sizeM M ≤ 1048576) (hm : MemAt w tv pv M) (hf : stepFit a b c d M h = false) :
    Calls Tryz.prog 46 #[.agg #[.int .i64 a, .int .i64 b, .int .i64 c], meV M.c tv pv, .int .i64 d, hdV h] w (GaveUp w.heap.size w) := by
  obtain ⟨va, vc, qa, qc, rfl, rfl⟩ := hm.form
  have k0 := (((Below.refl w.heap.size w).alloc (Nat.le_refl _) (.cells #[.int .i64 a, .int .i64 b, .int .i64 c] 46)).alloc (by simp) (memO M.c (.slice va M.tn vc) (.slice qa M.pn qc) 36)).alloc (by simp; omega) (.cells (hdCells h) 39)
  have hP := alloc_block (.cells (hdCells h) 39) (alloc_block (memO M.c (.slice va M.tn vc) (.slice qa M.pn qc) 36) (heap_alloc_new w (.cells #[.int .i64 a, .int .i64 b, .int .i64 c] 46)))
  have hX := heap_alloc_new (w.alloc (.cells #[.int .i64 a, .int .i64 b, .int .i64 c] 46)) (memO M.c (.slice va M.tn vc) (.slice qa M.pn qc) 36)
  rw [show (w.alloc (.cells #[.int .i64 a, .int .i64 b, .int .i64 c] 46)).heap.size = w.heap.size + 1 by simp] at hX
  replace hX := alloc_block (.cells (hdCells h) 39) hX
  have hH := heap_alloc_new ((w.alloc (.cells #[.int .i64 a, .int .i64 b, .int .i64 c] 46)).alloc (memO M.c (.slice va M.tn vc) (.slice qa M.pn qc) 36)) (.cells (hdCells h) 39)
  rw [show ((w.alloc (.cells #[.int .i64 a, .int .i64 b, .int .i64 c] 46)).alloc (memO M.c (.slice va M.tn vc) (.slice qa M.pn qc) 36)).heap.size = w.heap.size + 1 + 1 by simp] at hH
  have HM := Lib.hid (hm.below k0)
  have HF := Lib.hid hf
  clear hm hf
  go_enter Tryz.func46, Tryz.ntmps46
  go_upto_region 1 with fail
  generalize ((w.alloc (.cells #[.int .i64 a, .int .i64 b, .int .i64 c] 46)).alloc (memO M.c (.slice va M.tn vc) (.slice qa M.pn qc) 36)).alloc (.cells (hdCells h) 39) = w1 at k0 hP hX hH HM ⊢
  obtain ⟨p0, p1, p2, _, _, _⟩ := three hP
  obtain ⟨x0, x1, x2, _, _, _⟩ := three hX
  obtain ⟨h0, h1, h2, h3, h4, h5, h6, h7, h8, h9, h10, h11, _⟩ := twelve hH
  go_wp2_with fail
  go_at_call 71; refine (imFit_any a b c d h hs HM.out).mono ?_; rw [HF.out]; rintro e w2 ⟨rfl, hb⟩
  clear p0 p1 p2 x0 x1 x2 h0 h1 h2 h3 h4 h5 h6 h7 h8 h9 h10 h11 hP hX hH
  go_wp2_with (go_at_call 50; refine (giveUp_any _).mono ?_; rintro e w1 ⟨⟨u, pv, rfl⟩, rfl⟩)
  exact ⟨rfl, ⟨_, _, rfl⟩, k0.trans (hb.mono k0.size)⟩

set_option maxRecDepth 100000 in
set_option maxHeartbeats 8000000 in
theorem newDeed_yes (a b c d : Int) (h : Hd) {tv pv : Value} {M : Me} {w : World} (hs : sizeM M ≤ 1048576) (hm : MemAt w tv pv M) (hf : stepFit a b c d M h = true) :
    Calls Tryz.prog 46 #[.agg #[.int .i64 a, .int .i64 b, .int .i64 c], meV M.c tv pv, .int .i64 d, hdV h] w fun e w' => ∃ mb db, e = .returned (ptrV db) ∧ DeedX w' w.heap.size mb db a b c d ⟨M, h, et0⟩ ∧ Below w.heap.size w w' := by
  have hok : memOkB a b c M = true := by rw [stepFit, Bool.and_eq_true] at hf; exact hf.1
  obtain ⟨va, vc, qa, qc, rfl, rfl⟩ := hm.form
  have k0 := (((Below.refl w.heap.size w).alloc (Nat.le_refl _) (.cells #[.int .i64 a, .int .i64 b, .int .i64 c] 46)).alloc (by simp) (memO M.c (.slice va M.tn vc) (.slice qa M.pn qc) 36)).alloc (by simp; omega) (.cells (hdCells h) 39)
  have hP := alloc_block (.cells (hdCells h) 39) (alloc_block (memO M.c (.slice va M.tn vc) (.slice qa M.pn qc) 36) (heap_alloc_new w (.cells #[.int .i64 a, .int .i64 b, .int .i64 c] 46)))
  have hX := heap_alloc_new (w.alloc (.cells #[.int .i64 a, .int .i64 b, .int .i64 c] 46)) (memO M.c (.slice va M.tn vc) (.slice qa M.pn qc) 36)
  rw [show (w.alloc (.cells #[.int .i64 a, .int .i64 b, .int .i64 c] 46)).heap.size = w.heap.size + 1 by simp] at hX
  replace hX := alloc_block (.cells (hdCells h) 39) hX
  have hH := heap_alloc_new ((w.alloc (.cells #[.int .i64 a, .int .i64 b, .int .i64 c] 46)).alloc (memO M.c (.slice va M.tn vc) (.slice qa M.pn qc) 36)) (.cells (hdCells h) 39)
  rw [show ((w.alloc (.cells #[.int .i64 a, .int .i64 b, .int .i64 c] 46)).alloc (memO M.c (.slice va M.tn vc) (.slice qa M.pn qc) 36)).heap.size = w.heap.size + 1 + 1 by simp] at hH
  have HM := Lib.hid (hm.below k0)
  have HF := Lib.hid hf
  clear hm hf
  go_enter Tryz.func46, Tryz.ntmps46
  go_upto_region 1 with fail
  generalize ((w.alloc (.cells #[.int .i64 a, .int .i64 b, .int .i64 c] 46)).alloc (memO M.c (.slice va M.tn vc) (.slice qa M.pn qc) 36)).alloc (.cells (hdCells h) 39) = w1 at k0 hP hX hH HM ⊢
  obtain ⟨p0, p1, p2, _, _, _⟩ := three hP
  obtain ⟨x0, x1, x2, _, _, _⟩ := three hX
  obtain ⟨h0, h1, h2, h3, h4, h5, h6, h7, h8, h9, h10, h11, _⟩ := twelve hH
  go_wp2_with fail
  go_at_call 71; refine (imFit_any a b c d h hs HM.out).mono ?_; rw [HF.out]; rintro e w2 ⟨rfl, hb⟩
  have k2 := k0.trans (hb.mono k0.size)
  replace hP := b_block hb hP (lt_of_block hP)
  replace hX := b_block hb hX (lt_of_block hX)
  replace hH := b_block hb hH (lt_of_block hH)
  have HM2 := Lib.hid (HM.out.below hb)
  clear p0 p1 p2 x0 x1 x2 h0 h1 h2 h3 h4 h5 h6 h7 h8 h9 h10 h11 hb k0 HM
  have lP := lt_of_block hP
  have lX := lt_of_block hX
  have lH := lt_of_block hH
  obtain ⟨p0, p1, p2, _, _, _⟩ := three hP
  obtain ⟨x0, x1, x2, _, _, _⟩ := three hX
  obtain ⟨h0, h1, h2, h3, h4, h5, h6, h7, h8, h9, h10, h11, _⟩ := twelve hH
  go_upto_region 3 with fail
  refine wp_region_T (fun w' => w'.cell? ⟨w.heap.size, 0, none⟩ = some (.int .i64 a) ∧ w'.cell? ⟨w.heap.size, 1, none⟩ = some (.int .i64 b) ∧ w'.cell? ⟨w.heap.size, 2, none⟩ = some (.int .i64 c) ∧ w'.cell? ⟨w.heap.size + 1, 0, none⟩ = some (.int .i64 M.c) ∧ w'.cell? ⟨w.heap.size + 1, 1, none⟩ = some (.slice va M.tn vc) ∧ w'.cell? ⟨w.heap.size + 1, 2, none⟩ = some (.slice qa M.pn qc) ∧ w'.cell? ⟨w.heap.size + 1 + 1, 0, none⟩ = some (.int .i64 h.pos) ∧ w'.cell? ⟨w.heap.size + 1 + 1, 1, none⟩ = some (.int .i64 h.call.code) ∧ w'.cell? ⟨w.heap.size + 1 + 1, 2, none⟩ = some (.int .i64 h.call.a) ∧ w'.cell? ⟨w.heap.size + 1 + 1, 3, none⟩ = some (.int .i64 h.call.b) ∧ w'.cell? ⟨w.heap.size + 1 + 1, 4, none⟩ = some (.int .i64 h.call.c) ∧ w'.cell? ⟨w.heap.size + 1 + 1, 5, none⟩ = some (.int .i64 h.tim) ∧ w'.cell? ⟨w.heap.size + 1 + 1, 6, none⟩ = some (.int .i64 h.whe) ∧ w'.cell? ⟨w.heap.size + 1 + 1, 7, none⟩ = some (.bool h.had) ∧ w'.cell? ⟨w.heap.size + 1 + 1, 8, none⟩ = some (.int .i64 h.cnt) ∧ w'.cell? ⟨w.heap.size + 1 + 1, 9, none⟩ = some (.int .i64 h.beg) ∧ w'.cell? ⟨w.heap.size + 1 + 1, 10, none⟩ = some (.int .i64 h.rep) ∧ w'.cell? ⟨w.heap.size + 1 + 1, 11, none⟩ = some (.int .i64 h.out)) 7 (by kernel_rfl) ?_
  have hS : w2.drew.cell? ⟨w.heap.size, 0, none⟩ = some (.int .i64 a) ∧ w2.drew.cell? ⟨w.heap.size, 1, none⟩ = some (.int .i64 b) ∧ w2.drew.cell? ⟨w.heap.size, 2, none⟩ = some (.int .i64 c) ∧ w2.drew.cell? ⟨w.heap.size + 1, 0, none⟩ = some (.int .i64 M.c) ∧ w2.drew.cell? ⟨w.heap.size + 1, 1, none⟩ = some (.slice va M.tn vc) ∧ w2.drew.cell? ⟨w.heap.size + 1, 2, none⟩ = some (.slice qa M.pn qc) ∧ w2.drew.cell? ⟨w.heap.size + 1 + 1, 0, none⟩ = some (.int .i64 h.pos) ∧ w2.drew.cell? ⟨w.heap.size + 1 + 1, 1, none⟩ = some (.int .i64 h.call.code) ∧ w2.drew.cell? ⟨w.heap.size + 1 + 1, 2, none⟩ = some (.int .i64 h.call.a) ∧ w2.drew.cell? ⟨w.heap.size + 1 + 1, 3, none⟩ = some (.int .i64 h.call.b) ∧ w2.drew.cell? ⟨w.heap.size + 1 + 1, 4, none⟩ = some (.int .i64 h.call.c) ∧ w2.drew.cell? ⟨w.heap.size + 1 + 1, 5, none⟩ = some (.int .i64 h.tim) ∧ w2.drew.cell? ⟨w.heap.size + 1 + 1, 6, none⟩ = some (.int .i64 h.whe) ∧ w2.drew.cell? ⟨w.heap.size + 1 + 1, 7, none⟩ = some (.bool h.had) ∧ w2.drew.cell? ⟨w.heap.size + 1 + 1, 8, none⟩ = some (.int .i64 h.cnt) ∧ w2.drew.cell? ⟨w.heap.size + 1 + 1, 9, none⟩ = some (.int .i64 h.beg) ∧ w2.drew.cell? ⟨w.heap.size + 1 + 1, 10, none⟩ = some (.int .i64 h.rep) ∧ w2.drew.cell? ⟨w.heap.size + 1 + 1, 11, none⟩ = some (.int .i64 h.out) := ⟨p0, p1, p2, x0, x1, x2, h0, h1, h2, h3, h4, h5, h6, h7, h8, h9, h10, h11⟩
  refine wpAnyT_take (i := 0) (v := ?v0_1) rfl (by kernel_rfl) (by kernel_rfl) (by kernel_rfl) (by kernel_rfl) (fun _ _ _ h => h) (Or.inl ⟨by rfl, ?hy0_1⟩) hS ?rest0_1
  case hy0_1 => intro w' hSw; obtain ⟨s0, s1, s2, s3, s4, s5, s6, s7, s8, s9, s10, s11, s12, s13, s14, s15, s16, s17⟩ := hSw; go_simp; try with_reducible rfl
  simp only [Act.put, List.setIfInBounds_toArray, List.set_cons_zero, List.set_cons_succ]
  refine wpAnyT_take (i := 1) (v := ?v1_2) rfl (by kernel_rfl) (by kernel_rfl) (by kernel_rfl) (by kernel_rfl) (fun _ _ _ h => h) (Or.inl ⟨by rfl, ?hy1_2⟩) hS ?rest1_2
  case hy1_2 => intro w' hSw; obtain ⟨s0, s1, s2, s3, s4, s5, s6, s7, s8, s9, s10, s11, s12, s13, s14, s15, s16, s17⟩ := hSw; go_simp; try with_reducible rfl
  simp only [Act.put, List.setIfInBounds_toArray, List.set_cons_zero, List.set_cons_succ]
  refine wpAnyT_take (i := 3) (v := ?v3_3) rfl (by kernel_rfl) (by kernel_rfl) (by kernel_rfl) (by kernel_rfl) (fun _ _ _ h => h) (Or.inl ⟨by rfl, ?hy3_3⟩) hS ?rest3_3
  case hy3_3 => intro w' hSw; obtain ⟨s0, s1, s2, s3, s4, s5, s6, s7, s8, s9, s10, s11, s12, s13, s14, s15, s16, s17⟩ := hSw; go_simp; try with_reducible rfl
  simp only [Act.put, List.setIfInBounds_toArray, List.set_cons_zero, List.set_cons_succ]
  refine wpAnyT_take (i := 4) (v := ?v4_4) rfl (by kernel_rfl) (by kernel_rfl) (by kernel_rfl) (by kernel_rfl) (fun _ _ _ h => h) (Or.inl ⟨by rfl, ?hy4_4⟩) hS ?rest4_4
  case hy4_4 => intro w' hSw; obtain ⟨s0, s1, s2, s3, s4, s5, s6, s7, s8, s9, s10, s11, s12, s13, s14, s15, s16, s17⟩ := hSw; go_simp; try with_reducible rfl
  simp only [Act.put, List.setIfInBounds_toArray, List.set_cons_zero, List.set_cons_succ]
  refine wpAnyT_one (i := 2) (by kernel_rfl) rfl (by rfl) fun K hK => ?_
  go_simp
  have kd := (Below.refl w2.heap.size w2).drew
  go_at_call 72; refine (ownMemory_yes a b c hs (HM2.out.below kd) hok).mono ?_; rintro e w3 ⟨mb, rfl, hO, hb⟩
  have k3 := k2.trans ((kd.trans hb).mono k2.size)
  have hb3 : Below w2.heap.size w2 w3 := kd.trans hb
  replace hP := b_block hb3 hP lP
  replace hX := b_block hb3 hX lX
  replace hH := b_block hb3 hH lH
  replace hO := hO.mono (B' := w.heap.size) k2.size
  have q0 := three hP
  have q1 := three hX
  have q2 := twelve hH
  have hS3 : w3.cell? ⟨w.heap.size, 0, none⟩ = some (.int .i64 a) ∧ w3.cell? ⟨w.heap.size, 1, none⟩ = some (.int .i64 b) ∧ w3.cell? ⟨w.heap.size, 2, none⟩ = some (.int .i64 c) ∧ w3.cell? ⟨w.heap.size + 1, 0, none⟩ = some (.int .i64 M.c) ∧ w3.cell? ⟨w.heap.size + 1, 1, none⟩ = some (.slice va M.tn vc) ∧ w3.cell? ⟨w.heap.size + 1, 2, none⟩ = some (.slice qa M.pn qc) ∧ w3.cell? ⟨w.heap.size + 1 + 1, 0, none⟩ = some (.int .i64 h.pos) ∧ w3.cell? ⟨w.heap.size + 1 + 1, 1, none⟩ = some (.int .i64 h.call.code) ∧ w3.cell? ⟨w.heap.size + 1 + 1, 2, none⟩ = some (.int .i64 h.call.a) ∧ w3.cell? ⟨w.heap.size + 1 + 1, 3, none⟩ = some (.int .i64 h.call.b) ∧ w3.cell? ⟨w.heap.size + 1 + 1, 4, none⟩ = some (.int .i64 h.call.c) ∧ w3.cell? ⟨w.heap.size + 1 + 1, 5, none⟩ = some (.int .i64 h.tim) ∧ w3.cell? ⟨w.heap.size + 1 + 1, 6, none⟩ = some (.int .i64 h.whe) ∧ w3.cell? ⟨w.heap.size + 1 + 1, 7, none⟩ = some (.bool h.had) ∧ w3.cell? ⟨w.heap.size + 1 + 1, 8, none⟩ = some (.int .i64 h.cnt) ∧ w3.cell? ⟨w.heap.size + 1 + 1, 9, none⟩ = some (.int .i64 h.beg) ∧ w3.cell? ⟨w.heap.size + 1 + 1, 10, none⟩ = some (.int .i64 h.rep) ∧ w3.cell? ⟨w.heap.size + 1 + 1, 11, none⟩ = some (.int .i64 h.out) := ⟨q0.1, q0.2.1, q0.2.2.1, q1.1, q1.2.1, q1.2.2.1, q2.1, q2.2.1, q2.2.2.1, q2.2.2.2.1, q2.2.2.2.2.1, q2.2.2.2.2.2.1, q2.2.2.2.2.2.2.1, q2.2.2.2.2.2.2.2.1, q2.2.2.2.2.2.2.2.2.1, q2.2.2.2.2.2.2.2.2.2.1, q2.2.2.2.2.2.2.2.2.2.2.1, q2.2.2.2.2.2.2.2.2.2.2.2.1⟩
  refine hK _ _ (.inr hS3) ?_
  clear hK K
  (try simp only [Act.put, List.setIfInBounds_toArray, List.set_cons_zero, List.set_cons_succ])
  refine wpAnyT_take (i := 5) (v := ?v5_5) rfl (by kernel_rfl) (by kernel_rfl) (by kernel_rfl) (by kernel_rfl) (fun _ _ _ h => h) (Or.inl ⟨by rfl, ?hy5_5⟩) hS3 ?rest5_5
  case hy5_5 => intro w' hSw; obtain ⟨s0, s1, s2, s3, s4, s5, s6, s7, s8, s9, s10, s11, s12, s13, s14, s15, s16, s17⟩ := hSw; go_simp; try with_reducible rfl
  simp only [Act.put, List.setIfInBounds_toArray, List.set_cons_zero, List.set_cons_succ]
  refine wpAnyT_one (i := 6) (by kernel_rfl) rfl (by rfl) fun K hK => ?_
  go_simp
  have kN := (Below.refl w3.heap.size w3).alloc (Nat.le_refl _) (ddO mb d h et0)
  have hS4 : (w3.alloc (ddO mb d h et0)).cell? ⟨w.heap.size, 0, none⟩ = some (.int .i64 a) ∧ (w3.alloc (ddO mb d h et0)).cell? ⟨w.heap.size, 1, none⟩ = some (.int .i64 b) ∧ (w3.alloc (ddO mb d h et0)).cell? ⟨w.heap.size, 2, none⟩ = some (.int .i64 c) ∧ (w3.alloc (ddO mb d h et0)).cell? ⟨w.heap.size + 1, 0, none⟩ = some (.int .i64 M.c) ∧ (w3.alloc (ddO mb d h et0)).cell? ⟨w.heap.size + 1, 1, none⟩ = some (.slice va M.tn vc) ∧ (w3.alloc (ddO mb d h et0)).cell? ⟨w.heap.size + 1, 2, none⟩ = some (.slice qa M.pn qc) ∧ (w3.alloc (ddO mb d h et0)).cell? ⟨w.heap.size + 1 + 1, 0, none⟩ = some (.int .i64 h.pos) ∧ (w3.alloc (ddO mb d h et0)).cell? ⟨w.heap.size + 1 + 1, 1, none⟩ = some (.int .i64 h.call.code) ∧ (w3.alloc (ddO mb d h et0)).cell? ⟨w.heap.size + 1 + 1, 2, none⟩ = some (.int .i64 h.call.a) ∧ (w3.alloc (ddO mb d h et0)).cell? ⟨w.heap.size + 1 + 1, 3, none⟩ = some (.int .i64 h.call.b) ∧ (w3.alloc (ddO mb d h et0)).cell? ⟨w.heap.size + 1 + 1, 4, none⟩ = some (.int .i64 h.call.c) ∧ (w3.alloc (ddO mb d h et0)).cell? ⟨w.heap.size + 1 + 1, 5, none⟩ = some (.int .i64 h.tim) ∧ (w3.alloc (ddO mb d h et0)).cell? ⟨w.heap.size + 1 + 1, 6, none⟩ = some (.int .i64 h.whe) ∧ (w3.alloc (ddO mb d h et0)).cell? ⟨w.heap.size + 1 + 1, 7, none⟩ = some (.bool h.had) ∧ (w3.alloc (ddO mb d h et0)).cell? ⟨w.heap.size + 1 + 1, 8, none⟩ = some (.int .i64 h.cnt) ∧ (w3.alloc (ddO mb d h et0)).cell? ⟨w.heap.size + 1 + 1, 9, none⟩ = some (.int .i64 h.beg) ∧ (w3.alloc (ddO mb d h et0)).cell? ⟨w.heap.size + 1 + 1, 10, none⟩ = some (.int .i64 h.rep) ∧ (w3.alloc (ddO mb d h et0)).cell? ⟨w.heap.size + 1 + 1, 11, none⟩ = some (.int .i64 h.out) := by
    obtain ⟨c0, c1, c2, c3, c4, c5, c6, c7, c8, c9, c10, c11, c12, c13, c14, c15, c16, c17⟩ := hS3
    have l1 := lt_of_block hP
    have l2 := lt_of_block hX
    have l3 := lt_of_block hH
    exact ⟨(kN.cell (p := ⟨w.heap.size, 0, none⟩) l1).trans c0, (kN.cell (p := ⟨w.heap.size, 1, none⟩) l1).trans c1, (kN.cell (p := ⟨w.heap.size, 2, none⟩) l1).trans c2, (kN.cell (p := ⟨w.heap.size + 1, 0, none⟩) l2).trans c3, (kN.cell (p := ⟨w.heap.size + 1, 1, none⟩) l2).trans c4, (kN.cell (p := ⟨w.heap.size + 1, 2, none⟩) l2).trans c5, (kN.cell (p := ⟨w.heap.size + 1 + 1, 0, none⟩) l3).trans c6, (kN.cell (p := ⟨w.heap.size + 1 + 1, 1, none⟩) l3).trans c7, (kN.cell (p := ⟨w.heap.size + 1 + 1, 2, none⟩) l3).trans c8, (kN.cell (p := ⟨w.heap.size + 1 + 1, 3, none⟩) l3).trans c9, (kN.cell (p := ⟨w.heap.size + 1 + 1, 4, none⟩) l3).trans c10, (kN.cell (p := ⟨w.heap.size + 1 + 1, 5, none⟩) l3).trans c11, (kN.cell (p := ⟨w.heap.size + 1 + 1, 6, none⟩) l3).trans c12, (kN.cell (p := ⟨w.heap.size + 1 + 1, 7, none⟩) l3).trans c13, (kN.cell (p := ⟨w.heap.size + 1 + 1, 8, none⟩) l3).trans c14, (kN.cell (p := ⟨w.heap.size + 1 + 1, 9, none⟩) l3).trans c15, (kN.cell (p := ⟨w.heap.size + 1 + 1, 10, none⟩) l3).trans c16, (kN.cell (p := ⟨w.heap.size + 1 + 1, 11, none⟩) l3).trans c17⟩
  refine hK _ _ (.inr hS4) ?_
  clear hK K
  (try simp only [Act.put, List.setIfInBounds_toArray, List.set_cons_zero, List.set_cons_succ])
  refine wpAnyT_one (i := 7) (by kernel_rfl) rfl (by rfl) fun K hK => ?_
  go_simp
  refine hK _ _ (.inr hS4) ?_
  clear hK K
  (try simp only [Act.put, List.setIfInBounds_toArray, List.set_cons_zero, List.set_cons_succ])
  refine wpAnyT_done (by kernel_rfl) ?_ _
  have hN := heap_alloc_new w3 (ddO mb d h et0)
  have s3 := k3.size
  have hD : DeedX (w3.alloc (ddO mb d h et0)) w.heap.size mb w3.heap.size a b c d ⟨M, h, et0⟩ := ⟨s3, hN, hO.below kN⟩
  have k4 := k3.trans (kN.mono s3)
  clear hS hS3 hS4 hP hX hH p0 p1 p2 x0 x1 x2 h0 h1 h2 h3 h4 h5 h6 h7 h8 h9 h10 h11 q0 q1 q2 hb hb3 kd
  go_wp2
  go_ret
  exact ⟨_, _, rfl, hD, k4⟩

end Go.Proofs.YtflekodaiejflaaGreatDoor

/-
  What is done to a slot and to a timer in a memory of one's own (spec, chapter 6): put on one.
-/
namespace Go.Proofs.YtflekodaiejflaaGreatDoor
open Go.RowKit Go.Joins
set_option linter.unusedVariables false
set_option linter.unusedSimpArgs false

end Go.Proofs.YtflekodaiejflaaGreatDoor

/-
  Tidying up, in a memory of one's own (spec, chapter 6): armed.
-/
namespace Go.Proofs.YtflekodaiejflaaGreatDoor
open Go.RowKit Go.Joins
set_option linter.unusedVariables false
set_option linter.unusedSimpArgs false

end Go.Proofs.YtflekodaiejflaaGreatDoor

/-
  A timer comes into its heap (spec, chapter 9).
-/
namespace Go.Proofs.YtflekodaiejflaaGreatDoor
open Go.Deep Go.ChangeShapes Go.WideShapes Go.ChangeAt Go.RowKit Go.Joins
set_option linter.unusedVariables false
set_option linter.unusedSimpArgs false

theorem own_zero (w : World) (B : Nat) : OwnMem w B (.slice none 0 0) (.slice none 0 0) me0 := ⟨.inl ⟨rfl, rfl⟩, .inl ⟨rfl, rfl⟩⟩
section
variable {w0 w w' : World} {B A R pg pn pc : Nat} {c : Int} {tv : Value} {V : Nat → Value} {M : Me} {h : Hd} {v : Et}
theorem DSt.zeroC (s : DSt w0 w B A R c tv pg pn pc V M h v) : InDnB B dn0 false w0 (.returned (.tuple #[.agg #[.int .i64 0, .slice none 0 0, .slice none 0 0, .int .i64 0, .int .i64 0, .int .i64 0, .int .i64 0, .int .i64 0, .int .i64 0, .int .i64 0, .bool false, .int .i64 0, .int .i64 0, .int .i64 0, .int .i64 0, .int .i64 0, .int .i64 0, .int .i64 0, .int .i64 0, .int .i64 0], .bool false])) (w.setCells R 0 [.int .i64 0, .slice none 0 0, .slice none 0 0, .int .i64 0, .int .i64 0, .int .i64 0, .int .i64 0, .int .i64 0, .int .i64 0, .int .i64 0, .bool false, .int .i64 0, .int .i64 0, .int .i64 0, .int .i64 0, .int .i64 0, .int .i64 0, .int .i64 0, .int .i64 0, .int .i64 0]) :=
  ⟨_, _, rfl, own_zero _ _, wk_setCells s.b s.lr _ 0 s.k⟩
theorem DSt.zlies (s : DSt w0 w B A R c tv pg pn pc V M h v) : (w.setCells R 0 [.int .i64 0, .slice none 0 0, .slice none 0 0, .int .i64 0, .int .i64 0, .int .i64 0, .int .i64 0, .int .i64 0, .int .i64 0, .int .i64 0, .bool false, .int .i64 0, .int .i64 0, .int .i64 0, .int .i64 0, .int .i64 0, .int .i64 0, .int .i64 0, .int .i64 0, .int .i64 0]).rangeAt R 0 [.int .i64 0, .slice none 0 0, .slice none 0 0, .int .i64 0, .int .i64 0, .int .i64 0, .int .i64 0, .int .i64 0, .int .i64 0, .int .i64 0, .bool false, .int .i64 0, .int .i64 0, .int .i64 0, .int .i64 0, .int .i64 0, .int .i64 0, .int .i64 0, .int .i64 0, .int .i64 0] := by
  have ht : w.there R 0 20 := there_of_block s.r
  exact World.rangeAt_setCells_same _ _ _ _ ht
/-- what a call answered comes into the parameter's block -/
theorem DSt.call {pg' pc' : Nat} {tv' : Value} {V' : Nat → Value} {M' : Me} (s : DSt w0 w B A R c tv pg pn pc V M h v) (ho : OpenMem w' B tv' pg' pc' V' M') (hk : Wk B w w') (hc : M'.c = c) (hp : M'.pn = pn) :
    ∃ wq, RowKit.Hid (wq = ((w'.setCell ⟨A, 0, none⟩ (.int .i64 c)).setCell ⟨A, 1, none⟩ tv').setCell ⟨A, 2, none⟩ (.slice (some ⟨pg', 0, none⟩) pn pc')) ∧ DSt w0 wq B A R c tv' pg' pn pc' V' M' h v := by
  have hA := hk.kept s.a (by decide)
  have ha := block_setCell (i := 2) (block_setCell (i := 1) (block_setCell (i := 0) hA (.int .i64 c)) tv') (.slice (some ⟨pg', 0, none⟩) pn pc')
  simp only [List.setIfInBounds_toArray, List.set_cons_zero, List.set_cons_succ] at ha
  exact ⟨_, Lib.hid rfl, ho.other hA (by decide) (by decide) (by decide) (fun y hy => heap_set3 w' A _ _ _ hy), (s.k.trans hk).setNew3 s.b s.la _ _ _, ha, (heap_set3 w' A _ _ _ (Ne.symm s.ne)).trans (hk.kept s.r (by decide)), s.b, s.la, s.lr, s.ne, hc, hp⟩
end
theorem results_pair {P : Program} {fn : Func} {sl sb : Tmp} {T : TypeId} {tmps : Array Value} {w : World} {b : Nat} {cs : List Value} {d : TypeDesc} {x : Value} (hr : fn.results = #[.cell sl T, .tmp sb]) (ht : tmps.getD sl undef = .pointer (some ⟨b, 0, none⟩)) (hb : tmps.getD sb undef = x) (hc : w.rangeAt b 0 cs)
    (hu : P.underlying T = some d) (hd : d.isRow = true) (hi : (P.info? T).map (·.size) = some cs.length) : (results fn tmps).run P w = .ok (.tuple #[.agg cs.toArray, x]) w := by
  have hl := run_loadVar_mid w b 0 T cs d hc hu hd hi
  have ht2 : tmps[sl]?.getD undef = .pointer (some ⟨b, 0, none⟩) := by simpa using ht
  have hb2 : tmps[sb]?.getD undef = x := by simpa using hb
  simp [results, hr, ht2, hb2, asAddr, hl]

theorem DSt.tlt {w0 w : World} {B A R pg pn pc tg n tc t : Nat} {c : Int} {V : Nat → Value} {M : Me} {h : Hd} {v : Et} (s : DSt w0 w B A R c (.slice (some ⟨tg, 0, none⟩) n tc) pg pn pc V M h v) (ht : t < M.tn) : tg < w.heap.size := by
  have hn := s.o.t.len
  subst hn
  exact s.o.t.at.lt
end Go.Proofs.YtflekodaiejflaaGreatDoor

/-
  A worker's processor (spec, chapter 1).
-/
namespace Go.Proofs.YtflekodaiejflaaGreatDoor
open Go.RowKit Go.Joins
set_option linter.unusedVariables false
set_option linter.unusedSimpArgs false

def homeI (a b c w : Int) : Int := if workB a b c w then w % a else -1

end Go.Proofs.YtflekodaiejflaaGreatDoor

/-
  The step of creating (spec, chapter 9).
-/
namespace Go.Proofs.YtflekodaiejflaaGreatDoor
open Go.Deep Go.ChangeShapes Go.WideShapes Go.ChangeAt Go.RowKit Go.Joins
set_option linter.unusedVariables false
set_option linter.unusedSimpArgs false

theorem OwnMemIn.own {w : World} {B C : Nat} {tv pv : Value} {M : Me} (h : OwnMemIn w B C tv pv M) : OwnMem w B tv pv M := by
  refine ⟨?_, ?_⟩
  · rcases h.1 with h | ⟨g, cap, e, h, _⟩
    · exact .inl h
    · exact .inr ⟨g, cap, e, h⟩
  · rcases h.2 with h | ⟨g, cap, V, e, h, _⟩
    · exact .inl h
    · exact .inr ⟨g, cap, V, e, h⟩
/-- what a call answered comes into the answer's block -/
theorem InDnB.put {B R : Nat} {D : Dn} {q : Bool} {w0 w1 w' : World} {e : Ending} {Z : Array Value} (hI : InDnB B D q w1 e w') (k : Wk B w0 w1) (hB : B ≤ w0.heap.size) (lr : w0.heap.size ≤ R) (hR : w1.heap[R]? = some (.cells Z 43 (0, 0))) (hz : Z.size = 20) :
    ∃ ta tn tc pa pn pc, e = .returned (.tuple #[dnV D (.slice ta tn tc) (.slice pa pn pc), .bool q]) ∧ w'.there R 0 20 ∧ (w'.setCells R 0 (dnCells D (.slice ta tn tc) (.slice pa pn pc)).toList).rangeAt R 0 (dnCells D (.slice ta tn tc) (.slice pa pn pc)).toList ∧
      InDnB B D q w0 (.returned (.tuple #[dnV D (.slice ta tn tc) (.slice pa pn pc), .bool q])) (w'.setCells R 0 (dnCells D (.slice ta tn tc) (.slice pa pn pc)).toList) := by
  obtain ⟨tv, pv, rfl, ho, hk⟩ := hI
  obtain ⟨ta, tc, pa, pc, rfl, rfl⟩ := ho.at.form
  have hR' := hk.kept hR (by decide)
  have ht : w'.there R 0 20 := by rw [← hz]; exact there_of_block hR'
  exact ⟨ta, _, tc, pa, _, pc, rfl, ht, World.rangeAt_setCells_same _ _ _ _ ht, _, _, rfl, (ho.setCells _ hR').own, wk_setCells hB lr _ 0 (k.trans hk)⟩
theorem InDn.put {B R : Nat} {D : Dn} {w0 w1 w' : World} {e : Ending} {Z : Array Value} (q : Bool) (hI : InDn B D w1 e w') (k : Wk B w0 w1) (hB : B ≤ w0.heap.size) (lr : w0.heap.size ≤ R) (hR : w1.heap[R]? = some (.cells Z 43 (0, 0))) (hz : Z.size = 20) :
    ∃ ta tn tc pa pn pc, e = .returned (dnV D (.slice ta tn tc) (.slice pa pn pc)) ∧ w'.there R 0 20 ∧ (w'.setCells R 0 (dnCells D (.slice ta tn tc) (.slice pa pn pc)).toList).rangeAt R 0 (dnCells D (.slice ta tn tc) (.slice pa pn pc)).toList ∧
      InDnB B D q w0 (.returned (.tuple #[dnV D (.slice ta tn tc) (.slice pa pn pc), .bool q])) (w'.setCells R 0 (dnCells D (.slice ta tn tc) (.slice pa pn pc)).toList) := by
  obtain ⟨tv, pv, rfl, ho, hk⟩ := hI
  obtain ⟨ta, tc, pa, pc, rfl, rfl⟩ := ho.at.form
  have hR' := hk.kept hR (by decide)
  have ht : w'.there R 0 20 := by rw [← hz]; exact there_of_block hR'
  exact ⟨ta, _, tc, pa, _, pc, rfl, ht, World.rangeAt_setCells_same _ _ _ _ ht, _, _, rfl, (ho.setCells _ hR').own, wk_setCells hB lr _ 0 (k.trans hk)⟩

end Go.Proofs.YtflekodaiejflaaGreatDoor
