/-
  Is a step fit (spec, chapter 9).
-/
import Derived.Test.YtflekodaiejflaaGreatL10
import Derived.Test.YtflekodaiejflaaGreatL08
import Derived.Deep.QuietTactic
import Derived.BigQuiet
import Derived.Deep.DeepCutAuto
import Derived.Test.YtflekodaiejflaaGreatL12
import Derived.Test.YtflekodaiejflaaGreatL00
import Derived.StillTailTactics
import Derived.OrdersHeld
import Derived.Test.YtflekodaiejflaaGreatL09
import Derived.Test.YtflekodaiejflaaGreatL04
import Derived.Test.YtflekodaiejflaaGreatL11
import Derived.Deep.RegionHeld
import Derived.Test.YtflekodaiejflaaGreatL01
import Derived.OpenShut
import Derived.ChangeOld
import Derived.Deep.SlicePairs
namespace Go.Proofs.YtflekodaiejflaaGreat
open Go.Deep Go.ChangeShapes Go.WideShapes Go.ChangeAt Go.RowKit Go.Joins
set_option linter.unusedVariables false
set_option linter.unusedSimpArgs false

set_option maxRecDepth 100000 in
set_option maxHeartbeats 8000000 in
theorem spFit_any (a b c d : Int) (h : Hd) {tv pv : Value} {M : Me} {w : World} (hs : sizeM M ≤ 1048576) (hm : MemAt w tv pv M) :
    Calls Tryz.prog 33 #[.agg #[.int .i64 a, .int .i64 b, .int .i64 c], meV M.c tv pv, .int .i64 d, hdV h] w fun e w' => e = .returned (.bool (stepFit a b c d M h)) ∧ Below w.heap.size w w' := by
  obtain ⟨va, vc, qa, qc, rfl, rfl⟩ := hm.form
  have hn := (sizeM_le hs).1
  have k0 := ((((Below.refl w.heap.size w).alloc (Nat.le_refl _) (.cells #[.int .i64 a, .int .i64 b, .int .i64 c] 46)).alloc (by simp) (.cells #[.int .i64 M.c, .slice va M.tn vc, .slice qa M.pn qc] 36)).alloc (by simp; omega) (.cells #[.int .i64 h.pos, .int .i64 h.call.code, .int .i64 h.call.a, .int .i64 h.call.b, .int .i64 h.call.c, .int .i64 h.tim, .int .i64 h.whe, .bool h.had, .int .i64 h.cnt, .int .i64 h.beg, .int .i64 h.rep, .int .i64 h.out] 39))
  have kk := Below.refl (((w.alloc (.cells #[.int .i64 a, .int .i64 b, .int .i64 c] 46)).alloc (.cells #[.int .i64 M.c, .slice va M.tn vc, .slice qa M.pn qc] 36)).alloc (.cells #[.int .i64 h.pos, .int .i64 h.call.code, .int .i64 h.call.a, .int .i64 h.call.b, .int .i64 h.call.c, .int .i64 h.tim, .int .i64 h.whe, .bool h.had, .int .i64 h.cnt, .int .i64 h.beg, .int .i64 h.rep, .int .i64 h.out] 39)).heap.size (((w.alloc (.cells #[.int .i64 a, .int .i64 b, .int .i64 c] 46)).alloc (.cells #[.int .i64 M.c, .slice va M.tn vc, .slice qa M.pn qc] 36)).alloc (.cells #[.int .i64 h.pos, .int .i64 h.call.code, .int .i64 h.call.a, .int .i64 h.call.b, .int .i64 h.call.c, .int .i64 h.tim, .int .i64 h.whe, .bool h.had, .int .i64 h.cnt, .int .i64 h.beg, .int .i64 h.rep, .int .i64 h.out] 39))
  have HM := Lib.hid (fun (w' : World) (hb : Below w.heap.size w w') => hm.below hb)
  clear hm
  cases h1 : memOkB a b c M
  · skip
    go_enter Tryz.func33, Tryz.ntmps33
    go_wp2_with (first
      | (go_at_call 62; refine (spMemOk_any _ _ _ hs (HM.out _ (k0.trans (kk.mono k0.size)))).mono ?_; rintro e w1 ⟨rfl, hb⟩; replace kk := kk.trans (hb.mono kk.size); clear hb; (try clear hc hf); obtain ⟨hc, hf⟩ := bcell kk)
      | (go_at_call 63; refine (spHandOk_any _ _ _ _ _).mono ?_; rintro e w1 ⟨rfl, hb⟩; replace kk := kk.trans (hb.mono kk.size); clear hb; (try clear hc hf); obtain ⟨hc, hf⟩ := bcell kk)
      | (go_at_call 64; refine (l1Worker_any _ _ _ _ _).mono ?_; rintro e w1 ⟨rfl, hb⟩; replace kk := kk.trans (hb.mono kk.size); clear hb; (try clear hc hf); obtain ⟨hc, hf⟩ := bcell kk)
      | (go_at_call 65; refine (l5Has_any ⟨_, _, rfl⟩ hn _ _).mono ?_; rintro e w1 ⟨rfl, hb⟩; replace kk := kk.trans (hb.mono kk.size); clear hb; (try clear hc hf); obtain ⟨hc, hf⟩ := bcell kk))
    go_ret
    exact ⟨ret_bool' (by simp [stepFit, h1]), k0.trans (kk.mono k0.size)⟩
  cases h2 : handB a b c h
  · skip
    go_enter Tryz.func33, Tryz.ntmps33
    go_wp2_with (first
      | (go_at_call 62; refine (spMemOk_any _ _ _ hs (HM.out _ (k0.trans (kk.mono k0.size)))).mono ?_; rintro e w1 ⟨rfl, hb⟩; replace kk := kk.trans (hb.mono kk.size); clear hb; (try clear hc hf); obtain ⟨hc, hf⟩ := bcell kk)
      | (go_at_call 63; refine (spHandOk_any _ _ _ _ _).mono ?_; rintro e w1 ⟨rfl, hb⟩; replace kk := kk.trans (hb.mono kk.size); clear hb; (try clear hc hf); obtain ⟨hc, hf⟩ := bcell kk)
      | (go_at_call 64; refine (l1Worker_any _ _ _ _ _).mono ?_; rintro e w1 ⟨rfl, hb⟩; replace kk := kk.trans (hb.mono kk.size); clear hb; (try clear hc hf); obtain ⟨hc, hf⟩ := bcell kk)
      | (go_at_call 65; refine (l5Has_any ⟨_, _, rfl⟩ hn _ _).mono ?_; rintro e w1 ⟨rfl, hb⟩; replace kk := kk.trans (hb.mono kk.size); clear hb; (try clear hc hf); obtain ⟨hc, hf⟩ := bcell kk))
    go_ret
    exact ⟨ret_bool' (by simp [stepFit, h1, h2]), k0.trans (kk.mono k0.size)⟩
  cases h3 : workB a b c d
  · skip
    go_enter Tryz.func33, Tryz.ntmps33
    go_wp2_with (first
      | (go_at_call 62; refine (spMemOk_any _ _ _ hs (HM.out _ (k0.trans (kk.mono k0.size)))).mono ?_; rintro e w1 ⟨rfl, hb⟩; replace kk := kk.trans (hb.mono kk.size); clear hb; (try clear hc hf); obtain ⟨hc, hf⟩ := bcell kk)
      | (go_at_call 63; refine (spHandOk_any _ _ _ _ _).mono ?_; rintro e w1 ⟨rfl, hb⟩; replace kk := kk.trans (hb.mono kk.size); clear hb; (try clear hc hf); obtain ⟨hc, hf⟩ := bcell kk)
      | (go_at_call 64; refine (l1Worker_any _ _ _ _ _).mono ?_; rintro e w1 ⟨rfl, hb⟩; replace kk := kk.trans (hb.mono kk.size); clear hb; (try clear hc hf); obtain ⟨hc, hf⟩ := bcell kk)
      | (go_at_call 65; refine (l5Has_any ⟨_, _, rfl⟩ hn _ _).mono ?_; rintro e w1 ⟨rfl, hb⟩; replace kk := kk.trans (hb.mono kk.size); clear hb; (try clear hc hf); obtain ⟨hc, hf⟩ := bcell kk))
    go_ret
    exact ⟨ret_bool' (by simp [stepFit, h1, h2, h3]), k0.trans (kk.mono k0.size)⟩
  by_cases h4 : h.tim = -1
  case pos =>
    have h4b : (h.tim == -1) = true := by simpa using h4
    have H4 := Lib.hid h4
    clear h4
    go_enter Tryz.func33, Tryz.ntmps33
    go_wp2_with (first
      | (go_at_call 62; refine (spMemOk_any _ _ _ hs (HM.out _ (k0.trans (kk.mono k0.size)))).mono ?_; rintro e w1 ⟨rfl, hb⟩; replace kk := kk.trans (hb.mono kk.size); clear hb; (try clear hc hf); obtain ⟨hc, hf⟩ := bcell kk)
      | (go_at_call 63; refine (spHandOk_any _ _ _ _ _).mono ?_; rintro e w1 ⟨rfl, hb⟩; replace kk := kk.trans (hb.mono kk.size); clear hb; (try clear hc hf); obtain ⟨hc, hf⟩ := bcell kk)
      | (go_at_call 64; refine (l1Worker_any _ _ _ _ _).mono ?_; rintro e w1 ⟨rfl, hb⟩; replace kk := kk.trans (hb.mono kk.size); clear hb; (try clear hc hf); obtain ⟨hc, hf⟩ := bcell kk)
      | (go_at_call 65; refine (l5Has_any ⟨_, _, rfl⟩ hn _ _).mono ?_; rintro e w1 ⟨rfl, hb⟩; replace kk := kk.trans (hb.mono kk.size); clear hb; (try clear hc hf); obtain ⟨hc, hf⟩ := bcell kk))
    go_ret
    exact ⟨ret_bool' (by simp [stepFit, h1, h2, h3, H4.out]), k0.trans (kk.mono k0.size)⟩
  have h4b : (h.tim == -1) = false := by simpa using h4
  go_enter Tryz.func33, Tryz.ntmps33
  go_wp2_with (first
    | (go_at_call 62; refine (spMemOk_any _ _ _ hs (HM.out _ (k0.trans (kk.mono k0.size)))).mono ?_; rintro e w1 ⟨rfl, hb⟩; replace kk := kk.trans (hb.mono kk.size); clear hb; (try clear hc hf); obtain ⟨hc, hf⟩ := bcell kk)
    | (go_at_call 63; refine (spHandOk_any _ _ _ _ _).mono ?_; rintro e w1 ⟨rfl, hb⟩; replace kk := kk.trans (hb.mono kk.size); clear hb; (try clear hc hf); obtain ⟨hc, hf⟩ := bcell kk)
    | (go_at_call 64; refine (l1Worker_any _ _ _ _ _).mono ?_; rintro e w1 ⟨rfl, hb⟩; replace kk := kk.trans (hb.mono kk.size); clear hb; (try clear hc hf); obtain ⟨hc, hf⟩ := bcell kk)
    | (go_at_call 65; refine (l5Has_any ⟨_, _, rfl⟩ hn _ _).mono ?_; rintro e w1 ⟨rfl, hb⟩; replace kk := kk.trans (hb.mono kk.size); clear hb; (try clear hc hf); obtain ⟨hc, hf⟩ := bcell kk))
  go_ret
  exact ⟨ret_bool' (by simp [stepFit, h1, h2, h3, h4]), k0.trans (kk.mono k0.size)⟩

end Go.Proofs.YtflekodaiejflaaGreat

/-
  What is told of a timer; is a step fit (spec, chapter 9).
-/
namespace Go.Proofs.YtflekodaiejflaaGreat
open Go.Deep Go.ChangeShapes Go.WideShapes Go.ChangeAt Go.RowKit Go.Joins
set_option linter.unusedVariables false
set_option linter.unusedSimpArgs false

set_option maxRecDepth 100000 in
set_option maxHeartbeats 8000000 in
theorem l9Ev_any {B t : Nat} {tv pv : Value} {M : Me} {w : World} (kind when : Int) (ht : t < M.tn) (hm : OwnMem w B tv pv M) :
    Calls Tryz.prog 69 #[meV M.c tv pv, .int .i64 kind, .int .i64 (t : Int), .int .i64 when] w fun e w' => e = .returned (etV (evI M kind t when)) ∧ Below w.heap.size w w' := by
  obtain ⟨pa, pc, hpv⟩ := hm.2.row.form
  subst hpv
  rcases hm.1 with ⟨h0, _⟩ | ⟨tg, tc, rfl, hO⟩
  · omega
  have ge := hO.cells ht 5 (by decide)
  have lt := hO.lt
  clear hm hO
  have k0 := ((Below.refl w.heap.size w).alloc (Nat.le_refl _) (memO M.c (.slice (some ⟨tg, 0, none⟩) M.tn tc) (.slice pa M.pn pc) 36)).alloc (by simp) (.cells #[.int .i64 0, .int .i64 0, .int .i64 0, .int .i64 0, .int .i64 0] 41)
  have hA := alloc_block (.cells #[.int .i64 0, .int .i64 0, .int .i64 0, .int .i64 0, .int .i64 0] 41) (heap_alloc_new w (memO M.c (.slice (some ⟨tg, 0, none⟩) M.tn tc) (.slice pa M.pn pc) 36))
  have hR := heap_alloc_new (w.alloc (memO M.c (.slice (some ⟨tg, 0, none⟩) M.tn tc) (.slice pa M.pn pc) 36)) (.cells #[.int .i64 0, .int .i64 0, .int .i64 0, .int .i64 0, .int .i64 0] 41)
  rw [show (w.alloc (memO M.c (.slice (some ⟨tg, 0, none⟩) M.tn tc) (.slice pa M.pn pc) 36)).heap.size = w.heap.size + 1 by simp] at hR
  have gE := (k0.cell (p := ⟨tg, t * 8 + 5, none⟩) lt).trans ge
  have i4 : (0 : Int) ≤ (t : Int) := by omega
  have i5 : (t : Int) < (M.tn : Int) := by omega
  clear ge
  go_enter Tryz.func69, Tryz.ntmps69
  go_upto_region 1 with fail
  generalize ((w.alloc (memO M.c (.slice (some ⟨tg, 0, none⟩) M.tn tc) (.slice pa M.pn pc) 36)).alloc (.cells #[.int .i64 0, .int .i64 0, .int .i64 0, .int .i64 0, .int .i64 0] 41)) = W1 at k0 hA hR gE ⊢
  obtain ⟨x0, x1, x2, _, _, _⟩ := three hA
  have r0 := cell_of_block hR 0; have r1 := cell_of_block hR 1; have r2 := cell_of_block hR 2; have r3 := cell_of_block hR 3; have r4 := cell_of_block hR 4
  have f0 := unfrozen_of_block hR 0; have f1 := unfrozen_of_block hR 1; have f2 := unfrozen_of_block hR 2; have f3 := unfrozen_of_block hR 3; have f4 := unfrozen_of_block hR 4
  simp at r0 r1 r2 r3 r4
  have hne : ¬ tg = w.heap.size + 1 := by omega
  have hne2 : ¬ w.heap.size + 1 = tg := by omega
  go_region_held3 (fun w' => w'.cell? ⟨w.heap.size, 0, none⟩ = some (.int .i64 M.c) ∧ w'.cell? ⟨w.heap.size, 1, none⟩ = some (.slice (some ⟨tg, 0, none⟩) M.tn tc) ∧ w'.cell? ⟨tg, t * 8 + 5, none⟩ = some (.int .i64 (tmAt (M.t t) 5)))
    (first | with_reducible exact ⟨x0, x1, gE⟩ | (simp only [World.cell?_drew]; with_reducible exact ⟨x0, x1, gE⟩) | go_keep) (fail)
  all_goals
    have kf := (((((k0.setCell (p := ⟨w.heap.size + 1, 0, none⟩) (Nat.le_succ _) (.int .i64 kind)).setCell (p := ⟨w.heap.size + 1, 1, none⟩) (Nat.le_succ _) (.int .i64 (t : Int))).setCell (p := ⟨w.heap.size + 1, 2, none⟩) (Nat.le_succ _) (.int .i64 (tmAt (M.t t) 5))).setCell (p := ⟨w.heap.size + 1, 3, none⟩) (Nat.le_succ _) (.int .i64 when)).setCell (p := ⟨w.heap.size + 1, 4, none⟩) (Nat.le_succ _) (.int .i64 M.c)).drew
    go_wp2
    exact bodyPost_ret (v := etV (evI M kind t when)) (by simp [results, Tryz.results69, go_sem, r0, r1, r2, r3, r4, evI, tmAt]) rfl ⟨rfl, kf⟩

end Go.Proofs.YtflekodaiejflaaGreat

/-
  A region that draws its order and whose one operation 't' waits for all that is taken first: the condition S need not hold behind 't'.
-/
namespace Go.Proofs.YtflekodaiejflaaGreat
open Go Go.RowKit Go.Joins
set_option linter.unusedVariables false
set_option linter.unusedSimpArgs false

section
variable {P : Program} {ops : Array Oper} {Q : Exit → Act → World → Prop} {md : Region.Mode} {S : World → Prop} {t : Nat}
def wpAnyT (P : Program) (md : Region.Mode) (ops : Array Oper) (Q : Exit → Act → World → Prop) (S : World → Prop) (t : Nat) : Nat → Array Bool → Act → World → Prop
  | 0, listed, a, w => Region.ready md ops listed = [] ∧ Q .normal a w
  | fuel + 1, listed, a, w =>
    (Region.ready md ops listed = [] → Q .normal a w) ∧
    ∀ i ∈ Region.ready md ops listed, wpOp P ops Q i (fun a' w' => (i = t ∨ S w') ∧ wpAnyT P md ops Q S t fuel (listed.setIfInBounds i true) a' w') a w
theorem wpAny_of_T : ∀ (fuel : Nat) (listed : Array Bool) (a : Act) (w : World), wpAnyT P md ops Q S t fuel listed a w → wpAny P md ops Q fuel listed a w
  | 0, _, _, _, h => h
  | fuel + 1, _, _, _, h => ⟨h.1, fun i hi => wpOp_mono (fun a' w' h' => wpAny_of_T fuel _ a' w' h'.2) (h.2 i hi)⟩
theorem wpAnyT_first {i : Nat} {oi : Oper} {v : Value} (hi : ops[i]? = some oi) (hsel : ∀ (j : Nat) (o : Oper) cs b, ops[j]? = some o → o.op ≠ .select cs b)
    (hQ : ∀ c a w, Q (.panic c) (a.put oi.dst v) w → Q (.panic c) a w) (hT : Region.waitsFor md ops t i = true) :
    ∀ (fuel : Nat) (listed : Array Bool) (a : Act) (w : World),
      (∀ j oj, ops[j]? = some oj → j ≠ i → listed.getD j true = false → (∀ e ∈ oj.after, Region.binds md e = true → e.on ≠ i) → oi.apart ops oj = true) →
      i ∈ Region.ready md ops listed → YieldsIf P ops S oi v a → S w →
      wpAnyT P md ops Q S t fuel (listed.setIfInBounds i true) (a.put oi.dst v) w → wpAnyT P md ops Q S t (fuel + 1) listed a w := by
  intro fuel
  induction fuel with
  | zero =>
    intro listed a w _ hr hy hS H
    refine ⟨fun h => (by rw [h] at hr; cases hr), fun j hj => ?_⟩
    by_cases hji : j = i
    · subst hji; exact hy.wpOp hi hS ⟨.inr hS, H⟩
    · have := ready_mono hj hji
      rw [H.1] at this
      cases this
  | succ fuel ih =>
    intro listed a w hfree hr hy hS H
    refine ⟨fun h => (by rw [h] at hr; cases hr), fun j hj => ?_⟩
    by_cases hji : j = i
    · subst hji; exact hy.wpOp hi hS ⟨.inr hS, H⟩
    · have h1 := H.2 j (ready_mono hj hji)
      obtain ⟨hjun, oj, hoj, hall⟩ := mem_ready.1 hj
      have hnot : ∀ e ∈ oj.after, Region.binds md e = true → e.on ≠ i := fun e he hb heq => by
        have h1 := hall e he hb
        have h0 := (mem_ready.1 hr).1
        rw [heq] at h1
        rcases Nat.lt_or_ge i listed.size with h' | h'
        · simp [h'] at h0 h1; rw [h0] at h1; cases h1
        · simp [Array.getElem?_eq_none h'] at h1
      have hjt : j ≠ t := fun e => by
        subst e
        obtain ⟨oj', hoj', e, he, hb, heq⟩ := Region.waitsFor_spec hT
        rw [hoj] at hoj'
        injection hoj' with e1
        subst e1
        exact hnot e he hb heq
      have h2 := wpOp_putIf hoj (hfree j oj hoj hji hjun hnot) (fun cs b => hsel i oi cs b hi) (fun cs b => hsel j oj cs b hoj) hQ hy h1
      have hfree' : ∀ k ok, ops[k]? = some ok → k ≠ i → (listed.setIfInBounds j true).getD k true = false →
          (∀ e ∈ ok.after, Region.binds md e = true → e.on ≠ i) → oi.apart ops ok = true := fun k ok hk hki hun hno => by
        refine hfree k ok hk hki ?_ hno
        by_cases hjk : j = k
        · subst hjk; exact hjun
        · rw [getD_set_ne true hjk] at hun; exact hun
      refine wpOp_mono (fun a' w' h3 => ⟨h3.2.1, ih (listed.setIfInBounds j true) a' w' hfree' (ready_mono hr (Ne.symm hji)) h3.1 (h3.2.1.resolve_left hjt) ?_⟩) h2
      rw [Array.setIfInBounds_comm _ _ hji]
      exact h3.2.2
/-- take number i first -/
theorem wpAnyT_take {i : Nat} {oi : Oper} {v : Value} {fuel : Nat} {listed : Array Bool} {a : Act} {w : World} (hi : ops[i]? = some oi)
    (hs : Region.noSelect ops = true) (hf : Region.free md ops listed i = true) (hr : (Region.ready md ops listed).contains i = true) (hT : Region.waitsFor md ops t i = true)
    (hQ : ∀ c a w, Q (.panic c) (a.put oi.dst v) w → Q (.panic c) a w) (hy : YieldsIf P ops S oi v a) (hS : S w)
    (h : wpAnyT P md ops Q S t fuel (listed.setIfInBounds i true) (a.put oi.dst v) w) : wpAnyT P md ops Q S t (fuel + 1) listed a w :=
  wpAnyT_first hi (Region.noSelect_spec hs) hQ hT fuel listed a w (Region.free_spec hi hf) (by simpa using hr) hy hS h
/-- only number i may come up -/
theorem wpAnyT_one {i : Nat} {o : Oper} {fuel : Nat} {listed : Array Bool} {a : Act} {w : World} (hr : Region.ready md ops listed = [i]) (hi : ops[i]? = some o) (hw : Region.wanted o (yielded ops a.tmps) = true)
    (h : ∀ K : Act → World → Prop, (∀ a' w', (i = t ∨ S w') → wpAnyT P md ops Q S t fuel (listed.setIfInBounds i true) a' w' → K a' w') → o.wp P a w K Q) : wpAnyT P md ops Q S t (fuel + 1) listed a w := by
  refine ⟨fun h0 => (by rw [hr] at h0; cases h0), fun j hj => ?_⟩
  rw [hr] at hj
  obtain rfl : j = i := by simpa using hj
  unfold wpOp
  simp only [hi, hw, if_true]
  exact .inl (h _ fun a' w' h1 h2 => ⟨h1, h2⟩)
theorem wpAnyT_done {listed : Array Bool} {a : Act} {w : World} (hr : Region.ready md ops listed = []) (h : Q .normal a w) : ∀ fuel, wpAnyT P md ops Q S t fuel listed a w
  | 0 => ⟨hr, h⟩
  | _ + 1 => ⟨fun _ => h, by rw [hr]; simp⟩
theorem wp_region_T {id : Nat} {a : Act} {w : World} (S : World → Prop) (t : Nat) (hm : P.follows .mixedOrders = true)
    (h : wpAnyT P .any ops Q S t ops.size (Array.replicate ops.size false) a w.drew) : (Code.region id ops true).wp P Q a w :=
  wp_region_any hm (wpAny_of_T _ _ _ _ h)
end

end Go.Proofs.YtflekodaiejflaaGreat

/-
  A timer is made (spec, chapter 9).
-/
namespace Go.Proofs.YtflekodaiejflaaGreat
open Go.Deep Go.ChangeShapes Go.WideShapes Go.ChangeAt Go.RowKit Go.Joins
set_option linter.unusedVariables false
set_option linter.unusedSimpArgs false

theorem InDn.up {B : Nat} {D : Dn} {w0 w w' : World} {e : Ending} (h : InDn B D w e w') (k : Wk B w0 w) : InDn B D w0 e w' := by
  obtain ⟨tv, pv, e1, ho, hk⟩ := h
  exact ⟨tv, pv, e1, ho, k.trans hk⟩
theorem InDnB.up {B : Nat} {D : Dn} {q : Bool} {w0 w w' : World} {e : Ending} (h : InDnB B D q w e w') (k : Wk B w0 w) : InDnB B D q w0 e w' := by
  obtain ⟨tv, pv, e1, ho, hk⟩ := h
  exact ⟨tv, pv, e1, ho, k.trans hk⟩
theorem OwnTRow.blk {w : World} {B n : Nat} {v : Value} {f : Tms} (h : OwnTRow w B v n f) : ∀ x, v.ownBlock = some x → B ≤ x ∧ ∃ cs : Array Value, w.heap[x]? = some (.cells cs 90 (0, 0)) := by
  intro x hx
  rcases h with ⟨_, rfl⟩ | ⟨g, cap, rfl, h1, _, _, cur, hh, _⟩
  · cases hx
  · cases hx
    exact ⟨h1, cur, hh⟩
theorem OwnRow.blk {w : World} {B n : Nat} {v : Value} {f : Slots} (h : OwnRow w B v n f) : ∀ x, v.ownBlock = some x → x < w.heap.size ∧ ∃ cs : Array Value, w.heap[x]? = some (.cells cs 133 (0, 0)) := by
  intro x hx
  rcases h with ⟨_, rfl⟩ | ⟨g, cap, rfl, h1, _, _, cur, hh, _⟩
  · cases hx
  · cases hx
    exact ⟨lt_of_block hh, cur, hh⟩
/-- the list of timers has grown by one -/
theorem OpenMem.grownT {w w' : World} {B pg pc : Nat} {tv v' : Value} {V : Nat → Value} {M : Me} {T : Tm} (h : OpenMem w B tv pg pc V M) (hg : w.grownBy w' tv.ownBlock)
    (ho : w'.ownsRow B 90 8 v' (M.tn + 1) (cellsT M.t M.tn ++ cellsT (fun _ => T) 1)) : OpenMem w' B v' pg pc V (addTm M T) := by
  have hb := h.t.blk
  rw [cellsT_push] at ho
  refine ⟨ownT_of_row ho, ?_, ?_⟩
  · exact h.l.grown hg fun x hx e => by
      obtain ⟨_, cs, hc⟩ := hb x hx
      obtain ⟨cs', hc'⟩ := h.l.hh
      subst e
      rw [hc] at hc'
      injection hc' with e1
      injection e1 with _ e2
      exact absurd e2 (by decide)
  · refine h.h.other fun i hi x hx => hg.block x ?_ ?_
    · exact ((h.h.1 i hi).blk x hx).1
    · intro e
      obtain ⟨_, cs, hc⟩ := hb x e.symm
      obtain ⟨_, cs', hc'⟩ := (h.h.1 i hi).blk x hx
      rw [hc] at hc'
      injection hc' with e1
      injection e1 with _ e2
      exact absurd e2 (by decide)
theorem Wk.grownT {w0 w w' : World} {B n : Nat} {tv : Value} {f : Tms} (k : Wk B w0 w) (h : OwnTRow w B tv n f) (hg : w.grownBy w' tv.ownBlock) (hB : B ≤ w.heap.size) : Wk B w0 w' :=
  k.trans ⟨b_grownO hg (fun x hx => (h.blk x hx).1) hB, KeepsBut.of_grown hg fun x hx => by
    obtain ⟨_, cs, hc⟩ := h.blk x hx
    exact ⟨cs, _, hc, by decide⟩⟩

set_option maxRecDepth 100000 in
set_option maxHeartbeats 8000000 in
theorem l9Alloc_any {B : Nat} {tv pv : Value} {M : Me} {h : Hd} {v : Et} {w : World} (a b c : Int) (hB : B ≤ w.heap.size) (hk : 0 < M.pn) (hn : M.tn ≤ 1048576) (hm : OwnMem w B tv pv M) :
    Calls Tryz.prog 36 #[.agg #[.int .i64 a, .int .i64 b, .int .i64 c], dnV ⟨M, h, v⟩ tv pv] w (InDn B (allocD c ⟨M, h, v⟩) w) := by
  have kP := (Below.refl w.heap.size w).alloc (Nat.le_refl _) (.cells #[.int .i64 a, .int .i64 b, .int .i64 c] 46)
  have KP : Wk B w (w.alloc (.cells #[.int .i64 a, .int .i64 b, .int .i64 c] 46)) := Wk.of_new kP hB
  have hP := heap_alloc_new w (.cells #[.int .i64 a, .int .i64 b, .int .i64 c] 46)
  have hB1 : B ≤ (w.alloc (.cells #[.int .i64 a, .int .i64 b, .int .i64 c] 46)).heap.size := Nat.le_trans hB kP.size
  obtain ⟨pg, pc, V, rfl, ho⟩ := (hm.below kP).openP hk
  clear hm
  obtain ⟨ta, tc, hta⟩ := ho.t.row.form
  subst hta
  obtain ⟨w1, e1, s1⟩ := DSt.start h v hB1 ho
  clear ho kP
  rw [show (w.alloc (.cells #[.int .i64 a, .int .i64 b, .int .i64 c] 46)).heap.size = w.heap.size + 1 by simp] at s1
  have hP1 := s1.k.kept hP (by decide)
  have pl2 : w1.cell? ⟨w.heap.size, 2, none⟩ = some (.int .i64 c) := cell_of_block hP1 2
  obtain ⟨x0, x1, x2, x3, x4, x5, x6, x7, x8, x9, x10, x11, x12, x13, x14, x15, x16, x17, x18, x19, _⟩ := s1.cellsA
  by_cases hc : c ≤ (M.tn : Int)
  case pos =>
    have E := Lib.hid (show allocD c ⟨M, h, v⟩ = ⟨M, restHd 4 0, v⟩ from if_pos hc)
    have hcb : decide (c ≤ (M.tn : Int)) = true := by simpa using hc
    clear hc
    go_enter Tryz.func36, Tryz.ntmps36
    go_upto_region 1 with fail
    rw [← e1.out]
    clear e1
    go_upto_region 3 with fail
    go_wp2_with fail
    go_at_call 40; refine (spResting_any 4 0 _).mono ?_; rintro e w2 ⟨rfl, hb⟩
    have s2 := s1.below hb
    clear s1 hb pl2 hP1 x0 x1 x2 x3 x4 x5 x6 x7 x8 x9 x10 x11 x12 x13 x14 x15 x16 x17 x18 x19
    obtain ⟨x0, x1, x2, x3, x4, x5, x6, x7, x8, x9, x10, x11, x12, x13, x14, x15, x16, x17, x18, x19, xf0, xf1, xf2, xf3, xf4, xf5, xf6, xf7, xf8, xf9, xf10, xf11, xf12, xf13, xf14, xf15, xf16, xf17, xf18, xf19⟩ := s2.cellsA
    obtain ⟨w3, e3, s3⟩ := s2.hand_all (restHd 4 0)
    go_upto_region 4 with fail
    rw [← e3.out]
    clear e3 s2 x0 x1 x2 x3 x4 x5 x6 x7 x8 x9 x10 x11 x12 x13 x14 x15 x16 x17 x18 x19 xf0 xf1 xf2 xf3 xf4 xf5 xf6 xf7 xf8 xf9 xf10 xf11 xf12 xf13 xf14 xf15 xf16 xf17 xf18 xf19
    refine wp_region_lit ?_
    refine wpList_load_mid (by rfl) 43 _ (by rfl) _ 0 (by rfl) [.int .i64 M.c, (.slice ta M.tn tc), (.slice (some ⟨pg, 0, none⟩) M.pn pc), .int .i64 (restHd 4 0).pos, .int .i64 (restHd 4 0).call.code, .int .i64 (restHd 4 0).call.a, .int .i64 (restHd 4 0).call.b, .int .i64 (restHd 4 0).call.c, .int .i64 (restHd 4 0).tim, .int .i64 (restHd 4 0).whe, .bool (restHd 4 0).had, .int .i64 (restHd 4 0).cnt, .int .i64 (restHd 4 0).beg, .int .i64 (restHd 4 0).rep, .int .i64 (restHd 4 0).out, .int .i64 v.kin, .int .i64 v.tim, .int .i64 v.gen, .int .i64 v.whe, .int .i64 v.clk] _ (range_of_block s3.a) Tryz.underlying43 rfl done_info ?_
    refine wpList_store_mid (by rfl) 43 _ _ (by rfl) _ 0 #[.int .i64 M.c, (.slice ta M.tn tc), (.slice (some ⟨pg, 0, none⟩) M.pn pc), .int .i64 (restHd 4 0).pos, .int .i64 (restHd 4 0).call.code, .int .i64 (restHd 4 0).call.a, .int .i64 (restHd 4 0).call.b, .int .i64 (restHd 4 0).call.c, .int .i64 (restHd 4 0).tim, .int .i64 (restHd 4 0).whe, .bool (restHd 4 0).had, .int .i64 (restHd 4 0).cnt, .int .i64 (restHd 4 0).beg, .int .i64 (restHd 4 0).rep, .int .i64 (restHd 4 0).out, .int .i64 v.kin, .int .i64 v.tim, .int .i64 v.gen, .int .i64 v.whe, .int .i64 v.clk] (by rfl) (by rfl) s3.there done_info (by simp [Value.oneCell']) ?_
    refine wpList_nil ?_
    go_wp2
    exact bodyPost_ret (v := .agg #[.int .i64 M.c, (.slice ta M.tn tc), (.slice (some ⟨pg, 0, none⟩) M.pn pc), .int .i64 (restHd 4 0).pos, .int .i64 (restHd 4 0).call.code, .int .i64 (restHd 4 0).call.a, .int .i64 (restHd 4 0).call.b, .int .i64 (restHd 4 0).call.c, .int .i64 (restHd 4 0).tim, .int .i64 (restHd 4 0).whe, .bool (restHd 4 0).had, .int .i64 (restHd 4 0).cnt, .int .i64 (restHd 4 0).beg, .int .i64 (restHd 4 0).rep, .int .i64 (restHd 4 0).out, .int .i64 v.kin, .int .i64 v.tim, .int .i64 v.gen, .int .i64 v.whe, .int .i64 v.clk]) (results_cell (cs := [.int .i64 M.c, (.slice ta M.tn tc), (.slice (some ⟨pg, 0, none⟩) M.pn pc), .int .i64 (restHd 4 0).pos, .int .i64 (restHd 4 0).call.code, .int .i64 (restHd 4 0).call.a, .int .i64 (restHd 4 0).call.b, .int .i64 (restHd 4 0).call.c, .int .i64 (restHd 4 0).tim, .int .i64 (restHd 4 0).whe, .bool (restHd 4 0).had, .int .i64 (restHd 4 0).cnt, .int .i64 (restHd 4 0).beg, .int .i64 (restHd 4 0).rep, .int .i64 (restHd 4 0).out, .int .i64 v.kin, .int .i64 v.tim, .int .i64 v.gen, .int .i64 v.whe, .int .i64 v.clk]) rfl rfl s3.lies Tryz.underlying43 rfl done_info) rfl (by rw [E.out]; exact s3.retC.up KP)

  have E := Lib.hid (show allocD c ⟨M, h, v⟩ = ⟨addTm M (newTm ⟨M, h, v⟩), ⟨2, h.call, (M.tn : Int), h.whe, h.had, h.cnt, h.beg, h.rep, h.out⟩, v⟩ from if_neg hc)
  have hcb : decide (c ≤ (M.tn : Int)) = false := by simpa using hc
  clear hc
  go_enter Tryz.func36, Tryz.ntmps36
  go_upto_region 1 with fail
  rw [← e1.out]
  clear e1
  go_upto_region 6 with fail
  have hC := heap_alloc_new w1 (.cells #[.int .i64 h.call.code, .int .i64 h.call.a, .int .i64 h.call.b, .int .i64 h.call.c] 37)
  have s2 := s1.below ((Below.refl w1.heap.size w1).alloc (Nat.le_refl _) (.cells #[.int .i64 h.call.code, .int .i64 h.call.a, .int .i64 h.call.b, .int .i64 h.call.c] 37))
  obtain ⟨lB, lA, lR⟩ := s1.size
  have hCl := lt_of_block hC
  generalize hCb : w1.heap.size = Cb at hC lA lR hCl ⊢
  generalize hw2 : w1.alloc (.cells #[.int .i64 h.call.code, .int .i64 h.call.a, .int .i64 h.call.b, .int .i64 h.call.c] 37) = w2 at s2 hC hCl ⊢
  clear hw2 lB s1 hP1 pl2 x0 x1 x2 x3 x4 x5 x6 x7 x8 x9 x10 x11 x12 x13 x14 x15 x16 x17 x18 x19
  obtain ⟨lB, _, _⟩ := s2.size
  obtain ⟨x0, x1, _⟩ := s2.cellsA
  have q1 : w2.cell? ⟨Cb, 1, none⟩ = some (.int .i64 h.call.a) := cell_of_block hC 1
  have q2 : w2.cell? ⟨Cb, 2, none⟩ = some (.int .i64 h.call.b) := cell_of_block hC 2
  have q3 : w2.cell? ⟨Cb, 3, none⟩ = some (.int .i64 h.call.c) := cell_of_block hC 3
  have kk := (Below.refl w2.heap.size w2).drew
  have kN := kk.alloc kk.size (.cells #[.int .i64 2, .int .i64 (afterI M.c h.call.b), .int .i64 0, .int .i64 h.call.c, .int .i64 (-1), .int .i64 0, .int .i64 h.call.a, .int .i64 0] 90)
  have lA2 : w.heap.size + 1 < w2.heap.size := by omega
  have n0 : (w2.drew.alloc (.cells #[.int .i64 2, .int .i64 (afterI M.c h.call.b), .int .i64 0, .int .i64 h.call.c, .int .i64 (-1), .int .i64 0, .int .i64 h.call.a, .int .i64 0] 90)).cell? ⟨w.heap.size + 1, 0, none⟩ = _ := (kN.cell (p := ⟨w.heap.size + 1, 0, none⟩) lA2).trans x0
  have n1 : (w2.drew.alloc (.cells #[.int .i64 2, .int .i64 (afterI M.c h.call.b), .int .i64 0, .int .i64 h.call.c, .int .i64 (-1), .int .i64 0, .int .i64 h.call.a, .int .i64 0] 90)).cell? ⟨w.heap.size + 1, 1, none⟩ = _ := (kN.cell (p := ⟨w.heap.size + 1, 1, none⟩) lA2).trans x1
  have m1 : (w2.drew.alloc (.cells #[.int .i64 2, .int .i64 (afterI M.c h.call.b), .int .i64 0, .int .i64 h.call.c, .int .i64 (-1), .int .i64 0, .int .i64 h.call.a, .int .i64 0] 90)).cell? ⟨Cb, 1, none⟩ = _ := (kN.cell (p := ⟨Cb, 1, none⟩) hCl).trans q1
  have m2 : (w2.drew.alloc (.cells #[.int .i64 2, .int .i64 (afterI M.c h.call.b), .int .i64 0, .int .i64 h.call.c, .int .i64 (-1), .int .i64 0, .int .i64 h.call.a, .int .i64 0] 90)).cell? ⟨Cb, 2, none⟩ = _ := (kN.cell (p := ⟨Cb, 2, none⟩) hCl).trans q2
  have m3 : (w2.drew.alloc (.cells #[.int .i64 2, .int .i64 (afterI M.c h.call.b), .int .i64 0, .int .i64 h.call.c, .int .i64 (-1), .int .i64 0, .int .i64 h.call.a, .int .i64 0] 90)).cell? ⟨Cb, 3, none⟩ = _ := (kN.cell (p := ⟨Cb, 3, none⟩) hCl).trans q3
  have d1 : w2.drew.cell? ⟨w.heap.size + 1, 1, none⟩ = some (.slice ta M.tn tc) := x1
  have sN := s2.below kN
  have hOwn := Lib.hid (rowT_of_ownrow sN.o.t)
  have hNew := heap_alloc_new w2.drew (.cells #[.int .i64 2, .int .i64 (afterI M.c h.call.b), .int .i64 0, .int .i64 h.call.c, .int .i64 (-1), .int .i64 0, .int .i64 h.call.a, .int .i64 0] 90)
  have hRow := Lib.hid (show RowTAt (w2.drew.alloc (.cells #[.int .i64 2, .int .i64 (afterI M.c h.call.b), .int .i64 0, .int .i64 h.call.c, .int .i64 (-1), .int .i64 0, .int .i64 h.call.a, .int .i64 0] 90)) (.slice (some ⟨w2.heap.size, 0, none⟩) 1 1) 1 (fun _ => newTm ⟨M, h, v⟩) from .inr ⟨w2.heap.size, 0, 1, rfl, lt_of_block hNew, fun i hi j hj => by
    obtain rfl : i = 0 := by omega
    rw [show (⟨w2.heap.size, 0 + 0 * 8 + j, none⟩ : Addr) = ⟨w2.drew.heap.size, j, none⟩ by rw [show 0 + 0 * 8 + j = j by omega]; rfl, cell_of_block hNew]
    rcases j with _ | _ | _ | _ | _ | _ | _ | _ | j
    all_goals first | rfl | omega⟩)
  have lBN := sN.size.1
  refine wp_region_T (fun w' => w'.cell? ⟨w.heap.size + 1, 0, none⟩ = some (.int .i64 M.c) ∧ w'.cell? ⟨w.heap.size + 1, 1, none⟩ = some (.slice ta M.tn tc) ∧ w'.cell? ⟨Cb, 1, none⟩ = some (.int .i64 h.call.a) ∧ w'.cell? ⟨Cb, 2, none⟩ = some (.int .i64 h.call.b) ∧ w'.cell? ⟨Cb, 3, none⟩ = some (.int .i64 h.call.c)) 18 (by kernel_rfl) ?_
  have hS : w2.drew.cell? ⟨w.heap.size + 1, 0, none⟩ = some (.int .i64 M.c) ∧ w2.drew.cell? ⟨w.heap.size + 1, 1, none⟩ = some (.slice ta M.tn tc) ∧ w2.drew.cell? ⟨Cb, 1, none⟩ = some (.int .i64 h.call.a) ∧ w2.drew.cell? ⟨Cb, 2, none⟩ = some (.int .i64 h.call.b) ∧ w2.drew.cell? ⟨Cb, 3, none⟩ = some (.int .i64 h.call.c) := ⟨x0, x1, q1, q2, q3⟩
  refine wpAnyT_take (i := 0) (v := ?v0_1) rfl (by kernel_rfl) (by kernel_rfl) (by kernel_rfl) (by kernel_rfl) (fun _ _ _ h => h) (Or.inl ⟨by rfl, ?hy0_1⟩) hS ?rest0_1
  case hy0_1 => intro w' hSw; obtain ⟨s0, s1, s2, s3, s4⟩ := hSw; go_simp; try with_reducible rfl
  simp only [Act.put, List.setIfInBounds_toArray, List.set_cons_zero, List.set_cons_succ]
  refine wpAnyT_take (i := 1) (v := ?v1_2) rfl (by kernel_rfl) (by kernel_rfl) (by kernel_rfl) (by kernel_rfl) (fun _ _ _ h => h) (Or.inl ⟨by rfl, ?hy1_2⟩) hS ?rest1_2
  case hy1_2 => intro w' hSw; obtain ⟨s0, s1, s2, s3, s4⟩ := hSw; go_simp; try with_reducible rfl
  simp only [Act.put, List.setIfInBounds_toArray, List.set_cons_zero, List.set_cons_succ]
  refine wpAnyT_take (i := 2) (v := ?v2_3) rfl (by kernel_rfl) (by kernel_rfl) (by kernel_rfl) (by kernel_rfl) (fun _ _ _ h => h) (Or.inl ⟨by rfl, ?hy2_3⟩) hS ?rest2_3
  case hy2_3 => intro w' hSw; obtain ⟨s0, s1, s2, s3, s4⟩ := hSw; go_simp; try with_reducible rfl
  simp only [Act.put, List.setIfInBounds_toArray, List.set_cons_zero, List.set_cons_succ]
  refine wpAnyT_take (i := 3) (v := ?v3_4) rfl (by kernel_rfl) (by kernel_rfl) (by kernel_rfl) (by kernel_rfl) (fun _ _ _ h => h) (Or.inl ⟨by rfl, ?hy3_4⟩) hS ?rest3_4
  case hy3_4 => intro w' hSw; obtain ⟨s0, s1, s2, s3, s4⟩ := hSw; go_simp; try with_reducible rfl
  simp only [Act.put, List.setIfInBounds_toArray, List.set_cons_zero, List.set_cons_succ]
  refine wpAnyT_take (i := 4) (v := ?v4_5) rfl (by kernel_rfl) (by kernel_rfl) (by kernel_rfl) (by kernel_rfl) (fun _ _ _ h => h) (Or.inl ⟨by rfl, ?hy4_5⟩) hS ?rest4_5
  case hy4_5 => intro w' hSw; obtain ⟨s0, s1, s2, s3, s4⟩ := hSw; go_simp; try with_reducible rfl
  simp only [Act.put, List.setIfInBounds_toArray, List.set_cons_zero, List.set_cons_succ]
  refine wpAnyT_take (i := 5) (v := ?v5_6) rfl (by kernel_rfl) (by kernel_rfl) (by kernel_rfl) (by kernel_rfl) (fun _ _ _ h => h) (Or.inl ⟨by rfl, ?hy5_6⟩) hS ?rest5_6
  case hy5_6 => intro w' hSw; obtain ⟨s0, s1, s2, s3, s4⟩ := hSw; go_simp; try with_reducible rfl
  simp only [Act.put, List.setIfInBounds_toArray, List.set_cons_zero, List.set_cons_succ]
  refine wpAnyT_take (i := 6) (v := ?v6_7) rfl (by kernel_rfl) (by kernel_rfl) (by kernel_rfl) (by kernel_rfl) (fun _ _ _ h => h) (Or.inl ⟨by rfl, ?hy6_7⟩) hS ?rest6_7
  case hy6_7 => intro w' hSw; obtain ⟨s0, s1, s2, s3, s4⟩ := hSw; go_simp; try with_reducible rfl
  simp only [Act.put, List.setIfInBounds_toArray, List.set_cons_zero, List.set_cons_succ]
  refine wpAnyT_take (i := 7) (v := ?v7_8) rfl (by kernel_rfl) (by kernel_rfl) (by kernel_rfl) (by kernel_rfl) (fun _ _ _ h => h) (Or.inl ⟨by rfl, ?hy7_8⟩) hS ?rest7_8
  case hy7_8 => intro w' hSw; obtain ⟨s0, s1, s2, s3, s4⟩ := hSw; go_simp; try with_reducible rfl
  simp only [Act.put, List.setIfInBounds_toArray, List.set_cons_zero, List.set_cons_succ]
  refine wpAnyT_take (i := 9) (v := ?v9_9) rfl (by kernel_rfl) (by kernel_rfl) (by kernel_rfl) (by kernel_rfl) (fun _ _ _ h => h) (Or.inl ⟨by rfl, ?hy9_9⟩) hS ?rest9_9
  case hy9_9 => intro w' hSw; obtain ⟨s0, s1, s2, s3, s4⟩ := hSw; go_simp; try with_reducible rfl
  simp only [Act.put, List.setIfInBounds_toArray, List.set_cons_zero, List.set_cons_succ]
  refine wpAnyT_take (i := 10) (v := ?v10_10) rfl (by kernel_rfl) (by kernel_rfl) (by kernel_rfl) (by kernel_rfl) (fun _ _ _ h => h) (Or.inl ⟨by rfl, ?hy10_10⟩) hS ?rest10_10
  case hy10_10 => intro w' hSw; obtain ⟨s0, s1, s2, s3, s4⟩ := hSw; go_simp; try with_reducible rfl
  simp only [Act.put, List.setIfInBounds_toArray, List.set_cons_zero, List.set_cons_succ]
  refine wpAnyT_take (i := 11) (v := ?v11_11) rfl (by kernel_rfl) (by kernel_rfl) (by kernel_rfl) (by kernel_rfl) (fun _ _ _ h => h) (Or.inl ⟨by rfl, ?hy11_11⟩) hS ?rest11_11
  case hy11_11 => intro w' hSw; obtain ⟨s0, s1, s2, s3, s4⟩ := hSw; go_simp; try with_reducible rfl
  simp only [Act.put, List.setIfInBounds_toArray, List.set_cons_zero, List.set_cons_succ]
  refine wpAnyT_take (i := 12) (v := ?v12_12) rfl (by kernel_rfl) (by kernel_rfl) (by kernel_rfl) (by kernel_rfl) (fun _ _ _ h => h) (Or.inl ⟨by rfl, ?hy12_12⟩) hS ?rest12_12
  case hy12_12 => intro w' hSw; obtain ⟨s0, s1, s2, s3, s4⟩ := hSw; go_simp; try with_reducible rfl
  simp only [Act.put, List.setIfInBounds_toArray, List.set_cons_zero, List.set_cons_succ]
  refine wpAnyT_one (i := 8) (by kernel_rfl) rfl (by rfl) fun K hK => ?_
  go_simp
  go_at_call 66; refine (spAfter_any _ _ _).mono ?_; rintro x wp ⟨rfl, rfl⟩
  refine hK _ _ (.inr hS) ?_
  clear hK K
  (try simp only [Act.put, List.setIfInBounds_toArray, List.set_cons_zero, List.set_cons_succ])
  refine wpAnyT_take (i := 13) (v := ?v13_13) rfl (by kernel_rfl) (by kernel_rfl) (by kernel_rfl) (by kernel_rfl) (fun _ _ _ h => h) (Or.inl ⟨by rfl, ?hy13_13⟩) hS ?rest13_13
  case hy13_13 => intro w' hSw; obtain ⟨s0, s1, s2, s3, s4⟩ := hSw; go_simp; try with_reducible rfl
  simp only [Act.put, List.setIfInBounds_toArray, List.set_cons_zero, List.set_cons_succ]
  refine wpAnyT_one (i := 14) (by kernel_rfl) rfl (by rfl) fun K hK => ?_
  go_simp
  have hS2 : (w2.drew.alloc (.cells #[.int .i64 2, .int .i64 (afterI M.c h.call.b), .int .i64 0, .int .i64 h.call.c, .int .i64 (-1), .int .i64 0, .int .i64 h.call.a, .int .i64 0] 90)).cell? ⟨w.heap.size + 1, 0, none⟩ = some (.int .i64 M.c) ∧ (w2.drew.alloc (.cells #[.int .i64 2, .int .i64 (afterI M.c h.call.b), .int .i64 0, .int .i64 h.call.c, .int .i64 (-1), .int .i64 0, .int .i64 h.call.a, .int .i64 0] 90)).cell? ⟨w.heap.size + 1, 1, none⟩ = some (.slice ta M.tn tc) ∧ (w2.drew.alloc (.cells #[.int .i64 2, .int .i64 (afterI M.c h.call.b), .int .i64 0, .int .i64 h.call.c, .int .i64 (-1), .int .i64 0, .int .i64 h.call.a, .int .i64 0] 90)).cell? ⟨Cb, 1, none⟩ = some (.int .i64 h.call.a) ∧ (w2.drew.alloc (.cells #[.int .i64 2, .int .i64 (afterI M.c h.call.b), .int .i64 0, .int .i64 h.call.c, .int .i64 (-1), .int .i64 0, .int .i64 h.call.a, .int .i64 0] 90)).cell? ⟨Cb, 2, none⟩ = some (.int .i64 h.call.b) ∧ (w2.drew.alloc (.cells #[.int .i64 2, .int .i64 (afterI M.c h.call.b), .int .i64 0, .int .i64 h.call.c, .int .i64 (-1), .int .i64 0, .int .i64 h.call.a, .int .i64 0] 90)).cell? ⟨Cb, 3, none⟩ = some (.int .i64 h.call.c) := ⟨n0, n1, m1, m2, m3⟩
  refine hK _ _ (.inr hS2) ?_
  clear hK K
  (try simp only [Act.put, List.setIfInBounds_toArray, List.set_cons_zero, List.set_cons_succ])
  refine wpAnyT_one (i := 15) (by kernel_rfl) rfl (by rfl) fun K hK => ?_
  refine wp_append_tms (.tmp 23) (.tmp 35) rfl B _ M.tn M.t rfl hOwn.out _ 1 (fun _ => newTm ⟨M, h, v⟩) rfl hRow.out (by omega) lBN ?_
  intro v5 w5 hown5 hg5 hat5
  obtain ⟨t5, c5, h5⟩ := (sN.o.grownT hg5 hown5).t.row.form
  subst h5
  have kW := (Wk.of_new kN lB).grownT sN.o.t hg5 lBN
  have hA5 := kW.kept s2.a (by decide)
  have hC5 := kW.kept hC (by decide)
  have z0 : w5.cell? ⟨w.heap.size + 1, 0, none⟩ = some (.int .i64 M.c) := cell_of_block hA5 0
  have z1 : w5.cell? ⟨w.heap.size + 1, 1, none⟩ = some (.slice ta M.tn tc) := cell_of_block hA5 1
  have zf1 : w5.frozen? ⟨w.heap.size + 1, 1, none⟩ = false := unfrozen_of_block hA5 1
  have u1 : w5.cell? ⟨Cb, 1, none⟩ = some (.int .i64 h.call.a) := cell_of_block hC5 1
  have u2 : w5.cell? ⟨Cb, 2, none⟩ = some (.int .i64 h.call.b) := cell_of_block hC5 2
  have u3 : w5.cell? ⟨Cb, 3, none⟩ = some (.int .i64 h.call.c) := cell_of_block hC5 3
  have hS5 : w5.cell? ⟨w.heap.size + 1, 0, none⟩ = some (.int .i64 M.c) ∧ w5.cell? ⟨w.heap.size + 1, 1, none⟩ = some (.slice ta M.tn tc) ∧ w5.cell? ⟨Cb, 1, none⟩ = some (.int .i64 h.call.a) ∧ w5.cell? ⟨Cb, 2, none⟩ = some (.int .i64 h.call.b) ∧ w5.cell? ⟨Cb, 3, none⟩ = some (.int .i64 h.call.c) := ⟨z0, z1, u1, u2, u3⟩
  have hA6 := block_setCell (i := 1) hA5 (.slice t5 (addTm M (newTm ⟨M, h, v⟩)).tn c5)
  refine hK _ _ (.inr hS5) ?_
  clear hK K
  (try simp only [Act.put, List.setIfInBounds_toArray, List.set_cons_zero, List.set_cons_succ])
  refine wpAnyT_one (i := 16) (by kernel_rfl) rfl (by rfl) fun K hK => ?_
  go_simp
  refine hK _ _ (.inr hS5) ?_
  clear hK K
  (try simp only [Act.put, List.setIfInBounds_toArray, List.set_cons_zero, List.set_cons_succ])
  refine wpAnyT_take (i := 17) (v := ?v17_14) rfl (by kernel_rfl) (by kernel_rfl) (by kernel_rfl) (by kernel_rfl) (fun _ _ _ h => h) (Or.inl ⟨by rfl, ?hy17_14⟩) hS5 ?rest17_14
  case hy17_14 => intro w' hSw; obtain ⟨s0, s1, s2, s3, s4⟩ := hSw; go_simp; try with_reducible rfl
  simp only [Act.put, List.setIfInBounds_toArray, List.set_cons_zero, List.set_cons_succ]
  refine wpAnyT_one (i := 18) (by kernel_rfl) rfl (by rfl) fun K hK => ?_
  go_simp
  refine hK _ _ (.inl rfl) ?_
  clear hK K
  refine wpAnyT_done (by kernel_rfl) ?_ _
  all_goals
    simp only [List.setIfInBounds_toArray, List.set_cons_zero, List.set_cons_succ] at hA6
    have o6 := (sN.o.grownT hg5 hown5).other hA5 (by decide) (by decide) (by decide) (fun y hy => heap_set_ne (w := w5) 1 (.slice t5 (addTm M (newTm ⟨M, h, v⟩)).tn c5) hy)
    have s6 : DSt (w.alloc (.cells #[.int .i64 a, .int .i64 b, .int .i64 c] 46)) (w5.setCell ⟨w.heap.size + 1, 1, none⟩ (.slice t5 (addTm M (newTm ⟨M, h, v⟩)).tn c5)) B (w.heap.size + 1) (w.heap.size + 1 + 1) M.c (.slice t5 (addTm M (newTm ⟨M, h, v⟩)).tn c5) pg M.pn pc V (addTm M (newTm ⟨M, h, v⟩)) h v :=
      ⟨o6, (s2.k.trans kW).setNew s2.b s2.la 1 (.slice t5 (addTm M (newTm ⟨M, h, v⟩)).tn c5), hA6, (heap_set_ne (w := w5) 1 (.slice t5 (addTm M (newTm ⟨M, h, v⟩)).tn c5) (Ne.symm s2.ne)).trans (kW.kept s2.r (by decide)), s2.b, s2.la, s2.lr, s2.ne, rfl, rfl⟩
    generalize hw6 : w5.setCell ⟨w.heap.size + 1, 1, none⟩ (.slice t5 (addTm M (newTm ⟨M, h, v⟩)).tn c5) = w6 at s6 ⊢
    clear hw6 o6 hA6 hA5 hC5 kW hown5 hg5 hat5 hRow hOwn sN s2 kN kk hNew n0 n1 m1 m2 m3 d1 z0 z1 zf1 u1 u2 u3 q1 q2 q3 x0 x1 hC hS hS2 hS5
    obtain ⟨w7, e7, s7⟩ := s6.hand_tim (M.tn : Int)
    obtain ⟨w8, e8, s8⟩ := s7.hand_pos 2
    obtain ⟨x0, x1, x2, x3, x4, x5, x6, x7, x8, x9, x10, x11, x12, x13, x14, x15, x16, x17, x18, x19, xf0, xf1, xf2, xf3, xf4, xf5, xf6, xf7, xf8, xf9, xf10, xf11, xf12, xf13, xf14, xf15, xf16, xf17, xf18, xf19⟩ := s6.cellsA
    go_upto_region 8 with fail
    rw [← e7.out]
    clear e7 s6 x0 x1 x2 x3 x4 x5 x6 x7 x8 x9 x10 x11 x12 x13 x14 x15 x16 x17 x18 x19 xf0 xf1 xf2 xf3 xf4 xf5 xf6 xf7 xf8 xf9 xf10 xf11 xf12 xf13 xf14 xf15 xf16 xf17 xf18 xf19
    obtain ⟨x0, x1, x2, x3, x4, x5, x6, x7, x8, x9, x10, x11, x12, x13, x14, x15, x16, x17, x18, x19, xf0, xf1, xf2, xf3, xf4, xf5, xf6, xf7, xf8, xf9, xf10, xf11, xf12, xf13, xf14, xf15, xf16, xf17, xf18, xf19⟩ := s7.cellsA
    go_upto_region 9 with fail
    rw [← e8.out]
    clear e8 s7 x0 x1 x2 x3 x4 x5 x6 x7 x8 x9 x10 x11 x12 x13 x14 x15 x16 x17 x18 x19 xf0 xf1 xf2 xf3 xf4 xf5 xf6 xf7 xf8 xf9 xf10 xf11 xf12 xf13 xf14 xf15 xf16 xf17 xf18 xf19
    refine wp_region_lit ?_
    refine wpList_load_mid (by rfl) 43 _ (by rfl) _ 0 (by rfl) [.int .i64 M.c, (.slice t5 (addTm M (newTm ⟨M, h, v⟩)).tn c5), (.slice (some ⟨pg, 0, none⟩) M.pn pc), .int .i64 (⟨2, h.call, (M.tn : Int), h.whe, h.had, h.cnt, h.beg, h.rep, h.out⟩ : Hd).pos, .int .i64 (⟨2, h.call, (M.tn : Int), h.whe, h.had, h.cnt, h.beg, h.rep, h.out⟩ : Hd).call.code, .int .i64 (⟨2, h.call, (M.tn : Int), h.whe, h.had, h.cnt, h.beg, h.rep, h.out⟩ : Hd).call.a, .int .i64 (⟨2, h.call, (M.tn : Int), h.whe, h.had, h.cnt, h.beg, h.rep, h.out⟩ : Hd).call.b, .int .i64 (⟨2, h.call, (M.tn : Int), h.whe, h.had, h.cnt, h.beg, h.rep, h.out⟩ : Hd).call.c, .int .i64 (⟨2, h.call, (M.tn : Int), h.whe, h.had, h.cnt, h.beg, h.rep, h.out⟩ : Hd).tim, .int .i64 (⟨2, h.call, (M.tn : Int), h.whe, h.had, h.cnt, h.beg, h.rep, h.out⟩ : Hd).whe, .bool (⟨2, h.call, (M.tn : Int), h.whe, h.had, h.cnt, h.beg, h.rep, h.out⟩ : Hd).had, .int .i64 (⟨2, h.call, (M.tn : Int), h.whe, h.had, h.cnt, h.beg, h.rep, h.out⟩ : Hd).cnt, .int .i64 (⟨2, h.call, (M.tn : Int), h.whe, h.had, h.cnt, h.beg, h.rep, h.out⟩ : Hd).beg, .int .i64 (⟨2, h.call, (M.tn : Int), h.whe, h.had, h.cnt, h.beg, h.rep, h.out⟩ : Hd).rep, .int .i64 (⟨2, h.call, (M.tn : Int), h.whe, h.had, h.cnt, h.beg, h.rep, h.out⟩ : Hd).out, .int .i64 v.kin, .int .i64 v.tim, .int .i64 v.gen, .int .i64 v.whe, .int .i64 v.clk] _ (range_of_block s8.a) Tryz.underlying43 rfl done_info ?_
    refine wpList_store_mid (by rfl) 43 _ _ (by rfl) _ 0 #[.int .i64 M.c, (.slice t5 (addTm M (newTm ⟨M, h, v⟩)).tn c5), (.slice (some ⟨pg, 0, none⟩) M.pn pc), .int .i64 (⟨2, h.call, (M.tn : Int), h.whe, h.had, h.cnt, h.beg, h.rep, h.out⟩ : Hd).pos, .int .i64 (⟨2, h.call, (M.tn : Int), h.whe, h.had, h.cnt, h.beg, h.rep, h.out⟩ : Hd).call.code, .int .i64 (⟨2, h.call, (M.tn : Int), h.whe, h.had, h.cnt, h.beg, h.rep, h.out⟩ : Hd).call.a, .int .i64 (⟨2, h.call, (M.tn : Int), h.whe, h.had, h.cnt, h.beg, h.rep, h.out⟩ : Hd).call.b, .int .i64 (⟨2, h.call, (M.tn : Int), h.whe, h.had, h.cnt, h.beg, h.rep, h.out⟩ : Hd).call.c, .int .i64 (⟨2, h.call, (M.tn : Int), h.whe, h.had, h.cnt, h.beg, h.rep, h.out⟩ : Hd).tim, .int .i64 (⟨2, h.call, (M.tn : Int), h.whe, h.had, h.cnt, h.beg, h.rep, h.out⟩ : Hd).whe, .bool (⟨2, h.call, (M.tn : Int), h.whe, h.had, h.cnt, h.beg, h.rep, h.out⟩ : Hd).had, .int .i64 (⟨2, h.call, (M.tn : Int), h.whe, h.had, h.cnt, h.beg, h.rep, h.out⟩ : Hd).cnt, .int .i64 (⟨2, h.call, (M.tn : Int), h.whe, h.had, h.cnt, h.beg, h.rep, h.out⟩ : Hd).beg, .int .i64 (⟨2, h.call, (M.tn : Int), h.whe, h.had, h.cnt, h.beg, h.rep, h.out⟩ : Hd).rep, .int .i64 (⟨2, h.call, (M.tn : Int), h.whe, h.had, h.cnt, h.beg, h.rep, h.out⟩ : Hd).out, .int .i64 v.kin, .int .i64 v.tim, .int .i64 v.gen, .int .i64 v.whe, .int .i64 v.clk] (by rfl) (by rfl) s8.there done_info (by simp [Value.oneCell']) ?_
    refine wpList_nil ?_
    go_wp2
    exact bodyPost_ret (v := .agg #[.int .i64 M.c, (.slice t5 (addTm M (newTm ⟨M, h, v⟩)).tn c5), (.slice (some ⟨pg, 0, none⟩) M.pn pc), .int .i64 (⟨2, h.call, (M.tn : Int), h.whe, h.had, h.cnt, h.beg, h.rep, h.out⟩ : Hd).pos, .int .i64 (⟨2, h.call, (M.tn : Int), h.whe, h.had, h.cnt, h.beg, h.rep, h.out⟩ : Hd).call.code, .int .i64 (⟨2, h.call, (M.tn : Int), h.whe, h.had, h.cnt, h.beg, h.rep, h.out⟩ : Hd).call.a, .int .i64 (⟨2, h.call, (M.tn : Int), h.whe, h.had, h.cnt, h.beg, h.rep, h.out⟩ : Hd).call.b, .int .i64 (⟨2, h.call, (M.tn : Int), h.whe, h.had, h.cnt, h.beg, h.rep, h.out⟩ : Hd).call.c, .int .i64 (⟨2, h.call, (M.tn : Int), h.whe, h.had, h.cnt, h.beg, h.rep, h.out⟩ : Hd).tim, .int .i64 (⟨2, h.call, (M.tn : Int), h.whe, h.had, h.cnt, h.beg, h.rep, h.out⟩ : Hd).whe, .bool (⟨2, h.call, (M.tn : Int), h.whe, h.had, h.cnt, h.beg, h.rep, h.out⟩ : Hd).had, .int .i64 (⟨2, h.call, (M.tn : Int), h.whe, h.had, h.cnt, h.beg, h.rep, h.out⟩ : Hd).cnt, .int .i64 (⟨2, h.call, (M.tn : Int), h.whe, h.had, h.cnt, h.beg, h.rep, h.out⟩ : Hd).beg, .int .i64 (⟨2, h.call, (M.tn : Int), h.whe, h.had, h.cnt, h.beg, h.rep, h.out⟩ : Hd).rep, .int .i64 (⟨2, h.call, (M.tn : Int), h.whe, h.had, h.cnt, h.beg, h.rep, h.out⟩ : Hd).out, .int .i64 v.kin, .int .i64 v.tim, .int .i64 v.gen, .int .i64 v.whe, .int .i64 v.clk]) (results_cell (cs := [.int .i64 M.c, (.slice t5 (addTm M (newTm ⟨M, h, v⟩)).tn c5), (.slice (some ⟨pg, 0, none⟩) M.pn pc), .int .i64 (⟨2, h.call, (M.tn : Int), h.whe, h.had, h.cnt, h.beg, h.rep, h.out⟩ : Hd).pos, .int .i64 (⟨2, h.call, (M.tn : Int), h.whe, h.had, h.cnt, h.beg, h.rep, h.out⟩ : Hd).call.code, .int .i64 (⟨2, h.call, (M.tn : Int), h.whe, h.had, h.cnt, h.beg, h.rep, h.out⟩ : Hd).call.a, .int .i64 (⟨2, h.call, (M.tn : Int), h.whe, h.had, h.cnt, h.beg, h.rep, h.out⟩ : Hd).call.b, .int .i64 (⟨2, h.call, (M.tn : Int), h.whe, h.had, h.cnt, h.beg, h.rep, h.out⟩ : Hd).call.c, .int .i64 (⟨2, h.call, (M.tn : Int), h.whe, h.had, h.cnt, h.beg, h.rep, h.out⟩ : Hd).tim, .int .i64 (⟨2, h.call, (M.tn : Int), h.whe, h.had, h.cnt, h.beg, h.rep, h.out⟩ : Hd).whe, .bool (⟨2, h.call, (M.tn : Int), h.whe, h.had, h.cnt, h.beg, h.rep, h.out⟩ : Hd).had, .int .i64 (⟨2, h.call, (M.tn : Int), h.whe, h.had, h.cnt, h.beg, h.rep, h.out⟩ : Hd).cnt, .int .i64 (⟨2, h.call, (M.tn : Int), h.whe, h.had, h.cnt, h.beg, h.rep, h.out⟩ : Hd).beg, .int .i64 (⟨2, h.call, (M.tn : Int), h.whe, h.had, h.cnt, h.beg, h.rep, h.out⟩ : Hd).rep, .int .i64 (⟨2, h.call, (M.tn : Int), h.whe, h.had, h.cnt, h.beg, h.rep, h.out⟩ : Hd).out, .int .i64 v.kin, .int .i64 v.tim, .int .i64 v.gen, .int .i64 v.whe, .int .i64 v.clk]) rfl rfl s8.lies Tryz.underlying43 rfl done_info) rfl (by rw [E.out]; exact s8.retC.up KP)


end Go.Proofs.YtflekodaiejflaaGreat

/-
  A time, and that much later (chapter 1), in the program.
-/
namespace Go.Proofs.YtflekodaiejflaaGreat
open Go.RowKit
set_option linter.unusedVariables false
set_option linter.unusedSimpArgs false

set_option maxHeartbeats 400000 in
theorem after_any (t d : Int) (w : World) :
    Calls Tryz.prog 77 #[.int .i64 t, .int .i64 d] w fun e w' => e = .returned (.int .i64 (afterI t d)) ∧ w = w' := by
  cases h1 : inB t 0 1000000000
  · rw [afterI_no h1]
    go_enter Tryz.func77, Tryz.ntmps77
    go_wp2_with (go_at_call 105; refine (isTime_any _ _).mono ?_; rintro e w' ⟨rfl, rfl⟩)
    go_ret
    exact ⟨rfl, rfl⟩
  · obtain ⟨b1, b2⟩ := inB_iff.1 h1
    by_cases h2 : d < 0
    · rw [afterI_neg h1 h2]
      go_enter Tryz.func77, Tryz.ntmps77
      go_wp2_with (go_at_call 105; refine (isTime_any _ _).mono ?_; rintro e w' ⟨rfl, rfl⟩)
      go_ret
      exact ⟨rfl, rfl⟩
    · by_cases h3 : d ≤ 1000000000
      · by_cases h4 : t + d ≤ 1000000000
        · rw [afterI_in h1 h4 (by omega)]
          go_enter Tryz.func77, Tryz.ntmps77
          go_wp2_with (go_at_call 105; refine (isTime_any _ _).mono ?_; rintro e w' ⟨rfl, rfl⟩)
          go_ret
          exact ⟨rfl, rfl⟩
        · rw [afterI_far h1 (by omega) (by omega)]
          go_enter Tryz.func77, Tryz.ntmps77
          go_wp2_with (go_at_call 105; refine (isTime_any _ _).mono ?_; rintro e w' ⟨rfl, rfl⟩)
          go_ret
          exact ⟨rfl, rfl⟩
      · rw [afterI_far h1 (by omega) (by omega)]
        by_cases h4 : t + 1000000000 ≤ 1000000000
        · have h5 : t = 0 := by omega
          subst h5
          go_enter Tryz.func77, Tryz.ntmps77
          go_wp2_with (go_at_call 105; refine (isTime_any _ _).mono ?_; rintro e w' ⟨rfl, rfl⟩)
          go_ret
          exact ⟨rfl, rfl⟩
        · go_enter Tryz.func77, Tryz.ntmps77
          go_wp2_with (go_at_call 105; refine (isTime_any _ _).mono ?_; rintro e w' ⟨rfl, rfl⟩)
          go_ret
          exact ⟨rfl, rfl⟩

end Go.Proofs.YtflekodaiejflaaGreat

/-
  A new timer, in the program (chapter 9).
-/
namespace Go.Proofs.YtflekodaiejflaaGreat
open Go.RowKit Go.Joins
set_option linter.unusedVariables false
set_option linter.unusedSimpArgs false

/-- a call gives up -/
def GaveUp (B : Nat) (w : World) (e : Ending) (w' : World) : Prop := (∃ u pv, e = .panicked [{ v := .iface u pv, recovered := false }]) ∧ Below B w w'

/-- the list of timers has grown by one, and is stored -/
theorem OpenX.appT {w w' : World} {B mb g : Nat} {a b c : Int} {tv v' : Value} {V : Nat → Value} {M : Me} {T : Tm} (h : OpenX w B mb a b c tv g V M) (hg : w.grownBy w' tv.ownBlock)
    (ho : w'.ownsRow B 90 8 v' (M.tn + 1) (cellsT M.t M.tn ++ cellsT (fun _ => T) 1)) : OpenX (w'.setCell ⟨mb, 4, none⟩ v') B mb a b c v' g V (addTm M T) := by
  have hb := h.t.blk
  rw [cellsT_push] at ho
  have ht := ownT_of_row ho
  obtain ⟨cl, hcl⟩ := h.l.hh
  have e1 : w'.heap[mb]? = w.heap[mb]? := hg.block mb (lt_of_block h.m) (fun e => by
    obtain ⟨_, cs, hc⟩ := hb mb e.symm
    exact ne_ty h.m hc (by decide) rfl)
  have e2 : w'.heap[g]? = w.heap[g]? := hg.block g (lt_of_block hcl) (fun e => by
    obtain ⟨_, cs, hc⟩ := hb g e.symm
    exact ne_ty hcl hc (by decide) rfl)
  have hm := e1.trans h.m
  have hh := h.h.other (w' := w') fun i hi x hx => hg.block x ((h.h.1 i hi).blk x hx).1 (fun e => by
    obtain ⟨_, cs, hc⟩ := hb x e.symm
    obtain ⟨_, cs', hc'⟩ := (h.h.1 i hi).blk x hx
    exact ne_ty hc' hc (by decide) rfl)
  have hl := h.l.block e2
  exact ⟨h.m0, block_setCell hm (i := 4) _, ht.other hm (by decide) (heap_set1 w' mb _ _), hl.block (heap_set1 w' mb _ _ g (ne_ty (e2.trans hcl) hm (by decide))), hh.other (fun i hi y hy => heap_set1 w' mb _ _ y (own_ne (hh.1 i hi) hm (by decide) y hy))⟩
theorem Wd.grownT {w0 w w' : World} {B n : Nat} {tv : Value} {f : Tms} (k : Wd B w0 w) (h : OwnTRow w B tv n f) (hg : w.grownBy w' tv.ownBlock) (hB : B ≤ w.heap.size) : Wd B w0 w' :=
  k.trans ⟨b_grownO hg (fun x hx => (h.blk x hx).1) hB, KeepsBut.of_grown hg fun x hx => by
    obtain ⟨_, cs, hc⟩ := h.blk x hx
    exact ⟨cs, _, hc, by decide⟩⟩
theorem DeedX.grownT {w w' : World} {B mb db g : Nat} {a b c d : Int} {tv v' : Value} {V : Nat → Value} {D : Dn} {T : Tm} (h : DeedX w B mb db a b c d D) (ho : OpenX w B mb a b c tv g V D.m) (hg : w.grownBy w' tv.ownBlock)
    (hr : w'.ownsRow B 90 8 v' (D.m.tn + 1) (cellsT D.m.t D.m.tn ++ cellsT (fun _ => T) 1)) : DeedX (w'.setCell ⟨mb, 4, none⟩ v') B mb db a b c d ⟨addTm D.m T, D.h, D.v⟩ := by
  have e1 : w'.heap[db]? = w.heap[db]? := hg.block db h.lt (fun e => by
    obtain ⟨_, cs, hc⟩ := ho.t.blk db e.symm
    exact ne_ty h.e hc (by decide) rfl)
  exact h.mem ((heap_set1 w' mb _ _ db (ne_ty h.e ho.m (by decide))).trans e1) (ho.appT hg hr).own

abbrev tmNew (c b per kind : Int) : Obj := .cells #[.int .i64 2, .int .i64 (afterI c b), .int .i64 0, .int .i64 per, .int .i64 (-1), .int .i64 0, .int .i64 kind, .int .i64 0] 90

end Go.Proofs.YtflekodaiejflaaGreat

/-
  Is a step fit, in the program (chapter 9).
-/
namespace Go.Proofs.YtflekodaiejflaaGreat
open Go.Deep Go.ChangeShapes Go.WideShapes Go.ChangeAt Go.RowKit Go.Joins
set_option linter.unusedVariables false
set_option linter.unusedSimpArgs false

set_option maxRecDepth 100000 in
set_option maxHeartbeats 8000000 in
theorem imFit_any (a b c d : Int) (h : Hd) {tv pv : Value} {M : Me} {w : World} (hs : sizeM M ≤ 1048576) (hm : MemAt w tv pv M) :
    Calls Tryz.prog 73 #[.agg #[.int .i64 a, .int .i64 b, .int .i64 c], meV M.c tv pv, .int .i64 d, hdV h] w fun e w' => e = .returned (.bool (stepFit a b c d M h)) ∧ Below w.heap.size w w' := by
  obtain ⟨va, vc, qa, qc, rfl, rfl⟩ := hm.form
  have hn := (sizeM_le hs).1
  have k0 := ((((Below.refl w.heap.size w).alloc (Nat.le_refl _) (.cells #[.int .i64 a, .int .i64 b, .int .i64 c] 46)).alloc (by simp) (.cells #[.int .i64 M.c, .slice va M.tn vc, .slice qa M.pn qc] 36)).alloc (by simp; omega) (.cells #[.int .i64 h.pos, .int .i64 h.call.code, .int .i64 h.call.a, .int .i64 h.call.b, .int .i64 h.call.c, .int .i64 h.tim, .int .i64 h.whe, .bool h.had, .int .i64 h.cnt, .int .i64 h.beg, .int .i64 h.rep, .int .i64 h.out] 39))
  have HM := Lib.hid (hm.below k0)
  clear hm
  cases h1 : memOkB a b c M
  · skip
    go_enter Tryz.func73, Tryz.ntmps73
    go_wp2_with fail
    go_at_call 96; refine (seen_any a b c hs HM.out).mono ?_; rintro x w1 ⟨mb, rfl, hS, hb⟩
    have HS := Lib.hid hS
    have HK := Lib.hid (k0.trans (hb.mono k0.size))
    have kk := Below.refl w1.heap.size w1
    obtain ⟨hc, hf⟩ := bcell hb
    have hz := hb.size
    simp at hz
    have lz0 : w.heap.size < w1.heap.size := by omega
    have lz1 : w.heap.size + 1 < w1.heap.size := by omega
    have lz2 : w.heap.size + 1 + 1 < w1.heap.size := by omega
    clear hS hb k0 hz
    go_wp2_with (first
      | (go_at_call 97; refine (memRight_any hs (HS.out.below kk)).mono ?_; rintro e w2 ⟨rfl, hb⟩; replace kk := kk.trans (hb.mono kk.size); clear hb; obtain ⟨hc2, hf2⟩ := bcell kk)
      | (go_at_call 98; refine (imHandOk_any _ _ _ _ _).mono ?_; rintro e w2 ⟨rfl, hb⟩; replace kk := kk.trans (hb.mono kk.size); clear hb; (try clear hc2 hf2); obtain ⟨hc2, hf2⟩ := bcell kk)
      | (go_at_call 99; refine (hasWorker_any _ _ _ _ _).mono ?_; rintro e w2 ⟨rfl, hb⟩; replace kk := kk.trans (hb.mono kk.size); clear hb; (try clear hc2 hf2); obtain ⟨hc2, hf2⟩ := bcell kk)
      | (go_at_call 100; refine (hasTimer_any hn (HS.out.below kk) _).mono ?_; rintro e w2 ⟨rfl, hb⟩; replace kk := kk.trans (hb.mono kk.size); clear hb; (try clear hc2 hf2); obtain ⟨hc2, hf2⟩ := bcell kk))
    go_ret
    exact ⟨ret_bool' (by simp [stepFit, h1]), HK.out.trans (kk.mono HK.out.size)⟩
  cases h2 : handB a b c h
  · skip
    go_enter Tryz.func73, Tryz.ntmps73
    go_wp2_with fail
    go_at_call 96; refine (seen_any a b c hs HM.out).mono ?_; rintro x w1 ⟨mb, rfl, hS, hb⟩
    have HS := Lib.hid hS
    have HK := Lib.hid (k0.trans (hb.mono k0.size))
    have kk := Below.refl w1.heap.size w1
    obtain ⟨hc, hf⟩ := bcell hb
    have hz := hb.size
    simp at hz
    have lz0 : w.heap.size < w1.heap.size := by omega
    have lz1 : w.heap.size + 1 < w1.heap.size := by omega
    have lz2 : w.heap.size + 1 + 1 < w1.heap.size := by omega
    clear hS hb k0 hz
    go_wp2_with (first
      | (go_at_call 97; refine (memRight_any hs (HS.out.below kk)).mono ?_; rintro e w2 ⟨rfl, hb⟩; replace kk := kk.trans (hb.mono kk.size); clear hb; obtain ⟨hc2, hf2⟩ := bcell kk)
      | (go_at_call 98; refine (imHandOk_any _ _ _ _ _).mono ?_; rintro e w2 ⟨rfl, hb⟩; replace kk := kk.trans (hb.mono kk.size); clear hb; (try clear hc2 hf2); obtain ⟨hc2, hf2⟩ := bcell kk)
      | (go_at_call 99; refine (hasWorker_any _ _ _ _ _).mono ?_; rintro e w2 ⟨rfl, hb⟩; replace kk := kk.trans (hb.mono kk.size); clear hb; (try clear hc2 hf2); obtain ⟨hc2, hf2⟩ := bcell kk)
      | (go_at_call 100; refine (hasTimer_any hn (HS.out.below kk) _).mono ?_; rintro e w2 ⟨rfl, hb⟩; replace kk := kk.trans (hb.mono kk.size); clear hb; (try clear hc2 hf2); obtain ⟨hc2, hf2⟩ := bcell kk))
    go_ret
    exact ⟨ret_bool' (by simp [stepFit, h1, h2]), HK.out.trans (kk.mono HK.out.size)⟩
  cases h3 : workB a b c d
  · skip
    go_enter Tryz.func73, Tryz.ntmps73
    go_wp2_with fail
    go_at_call 96; refine (seen_any a b c hs HM.out).mono ?_; rintro x w1 ⟨mb, rfl, hS, hb⟩
    have HS := Lib.hid hS
    have HK := Lib.hid (k0.trans (hb.mono k0.size))
    have kk := Below.refl w1.heap.size w1
    obtain ⟨hc, hf⟩ := bcell hb
    have hz := hb.size
    simp at hz
    have lz0 : w.heap.size < w1.heap.size := by omega
    have lz1 : w.heap.size + 1 < w1.heap.size := by omega
    have lz2 : w.heap.size + 1 + 1 < w1.heap.size := by omega
    clear hS hb k0 hz
    go_wp2_with (first
      | (go_at_call 97; refine (memRight_any hs (HS.out.below kk)).mono ?_; rintro e w2 ⟨rfl, hb⟩; replace kk := kk.trans (hb.mono kk.size); clear hb; obtain ⟨hc2, hf2⟩ := bcell kk)
      | (go_at_call 98; refine (imHandOk_any _ _ _ _ _).mono ?_; rintro e w2 ⟨rfl, hb⟩; replace kk := kk.trans (hb.mono kk.size); clear hb; (try clear hc2 hf2); obtain ⟨hc2, hf2⟩ := bcell kk)
      | (go_at_call 99; refine (hasWorker_any _ _ _ _ _).mono ?_; rintro e w2 ⟨rfl, hb⟩; replace kk := kk.trans (hb.mono kk.size); clear hb; (try clear hc2 hf2); obtain ⟨hc2, hf2⟩ := bcell kk)
      | (go_at_call 100; refine (hasTimer_any hn (HS.out.below kk) _).mono ?_; rintro e w2 ⟨rfl, hb⟩; replace kk := kk.trans (hb.mono kk.size); clear hb; (try clear hc2 hf2); obtain ⟨hc2, hf2⟩ := bcell kk))
    go_ret
    exact ⟨ret_bool' (by simp [stepFit, h1, h2, h3]), HK.out.trans (kk.mono HK.out.size)⟩
  by_cases h4 : h.tim = -1
  case pos =>
    have h4b : (h.tim == -1) = true := by simpa using h4
    have H4 := Lib.hid h4
    clear h4
    go_enter Tryz.func73, Tryz.ntmps73
    go_wp2_with fail
    go_at_call 96; refine (seen_any a b c hs HM.out).mono ?_; rintro x w1 ⟨mb, rfl, hS, hb⟩
    have HS := Lib.hid hS
    have HK := Lib.hid (k0.trans (hb.mono k0.size))
    have kk := Below.refl w1.heap.size w1
    obtain ⟨hc, hf⟩ := bcell hb
    have hz := hb.size
    simp at hz
    have lz0 : w.heap.size < w1.heap.size := by omega
    have lz1 : w.heap.size + 1 < w1.heap.size := by omega
    have lz2 : w.heap.size + 1 + 1 < w1.heap.size := by omega
    clear hS hb k0 hz
    go_wp2_with (first
      | (go_at_call 97; refine (memRight_any hs (HS.out.below kk)).mono ?_; rintro e w2 ⟨rfl, hb⟩; replace kk := kk.trans (hb.mono kk.size); clear hb; obtain ⟨hc2, hf2⟩ := bcell kk)
      | (go_at_call 98; refine (imHandOk_any _ _ _ _ _).mono ?_; rintro e w2 ⟨rfl, hb⟩; replace kk := kk.trans (hb.mono kk.size); clear hb; (try clear hc2 hf2); obtain ⟨hc2, hf2⟩ := bcell kk)
      | (go_at_call 99; refine (hasWorker_any _ _ _ _ _).mono ?_; rintro e w2 ⟨rfl, hb⟩; replace kk := kk.trans (hb.mono kk.size); clear hb; (try clear hc2 hf2); obtain ⟨hc2, hf2⟩ := bcell kk)
      | (go_at_call 100; refine (hasTimer_any hn (HS.out.below kk) _).mono ?_; rintro e w2 ⟨rfl, hb⟩; replace kk := kk.trans (hb.mono kk.size); clear hb; (try clear hc2 hf2); obtain ⟨hc2, hf2⟩ := bcell kk))
    go_ret
    exact ⟨ret_bool' (by simp [stepFit, h1, h2, h3, H4.out]), HK.out.trans (kk.mono HK.out.size)⟩
  have h4b : (h.tim == -1) = false := by simpa using h4
  go_enter Tryz.func73, Tryz.ntmps73
  go_wp2_with fail
  go_at_call 96; refine (seen_any a b c hs HM.out).mono ?_; rintro x w1 ⟨mb, rfl, hS, hb⟩
  have HS := Lib.hid hS
  have HK := Lib.hid (k0.trans (hb.mono k0.size))
  have kk := Below.refl w1.heap.size w1
  obtain ⟨hc, hf⟩ := bcell hb
  have hz := hb.size
  simp at hz
  have lz0 : w.heap.size < w1.heap.size := by omega
  have lz1 : w.heap.size + 1 < w1.heap.size := by omega
  have lz2 : w.heap.size + 1 + 1 < w1.heap.size := by omega
  clear hS hb k0 hz
  go_wp2_with (first
    | (go_at_call 97; refine (memRight_any hs (HS.out.below kk)).mono ?_; rintro e w2 ⟨rfl, hb⟩; replace kk := kk.trans (hb.mono kk.size); clear hb; obtain ⟨hc2, hf2⟩ := bcell kk)
    | (go_at_call 98; refine (imHandOk_any _ _ _ _ _).mono ?_; rintro e w2 ⟨rfl, hb⟩; replace kk := kk.trans (hb.mono kk.size); clear hb; (try clear hc2 hf2); obtain ⟨hc2, hf2⟩ := bcell kk)
    | (go_at_call 99; refine (hasWorker_any _ _ _ _ _).mono ?_; rintro e w2 ⟨rfl, hb⟩; replace kk := kk.trans (hb.mono kk.size); clear hb; (try clear hc2 hf2); obtain ⟨hc2, hf2⟩ := bcell kk)
    | (go_at_call 100; refine (hasTimer_any hn (HS.out.below kk) _).mono ?_; rintro e w2 ⟨rfl, hb⟩; replace kk := kk.trans (hb.mono kk.size); clear hb; (try clear hc2 hf2); obtain ⟨hc2, hf2⟩ := bcell kk))
  go_ret
  exact ⟨ret_bool' (by simp [stepFit, h1, h2, h3, h4]), HK.out.trans (kk.mono HK.out.size)⟩

end Go.Proofs.YtflekodaiejflaaGreat

/-
  A memory, later (spec, chapter 5).
-/
namespace Go.Proofs.YtflekodaiejflaaGreat
open Go.RowKit Go.Joins
set_option linter.unusedVariables false
set_option linter.unusedSimpArgs false

def elapsedM (a b c d : Int) (M : Me) : Me := if memOkB a b c M then ⟨minI (afterI M.c d) 999999999, M.tn, M.t, M.pn, M.p⟩ else me0

end Go.Proofs.YtflekodaiejflaaGreat

/-
  A law's memory that came in, opened; the rows of the exact laws on memories.
-/
namespace Go.Proofs.YtflekodaiejflaaGreat
open Go.RowKit Go.Joins Go.ChangeShapes Go.WideShapes Go.ChangeAt Go.Deep
set_option linter.unusedVariables false
set_option linter.unusedSimpArgs false

set_option maxRecDepth 100000 in
/-- a law's list of slots, read as a field -/
theorem slots_fieldM {H : Type} {enc : TypeId × Value → H} {W : World} {fuel : Nat} {v : Value} {y : DataW H × List MemPlace}
    (hf : DataW.trod enc Tryz.prog W 0 (fun _ => true) true fuel 73 [v] = some y) :
    ∃ (n : Nat) (f : Slots) (a : Option Addr) (cap : Nat), n ≤ maxLen ∧ v = .slice a n cap ∧ RowAt W v n f := by
  obtain ⟨a, len, cap, hv⟩ := slice_form Tryz.underlying73 hf
  simp at hv
  subst hv
  obtain ⟨y1, y2⟩ := y
  rcases Go.Deep.open_slice_pairs Tryz.underlying73 Tryz.underlying141 (by kernel_rfl) rfl rfl (by kernel_rfl) (by kernel_rfl) hf with ⟨hcs, _⟩ | ⟨x, l, c, m, k, V0, V1, D0, D1, P0, P1, hcs, _, hl, hm, hmm, _, hc⟩
  · simp at hcs
    obtain ⟨rfl, rfl, rfl⟩ := hcs
    exact ⟨0, fun _ => (0, 0), _, _, Nat.zero_le _, rfl, .inl ⟨rfl, _, _, rfl⟩⟩
  · simp at hcs
    obtain ⟨rfl, rfl, rfl⟩ := hcs
    simp at hmm
    subst hmm
    refine ⟨len, fun i => (intOf (V0 i), intOf (V1 i)), _, _, Nat.le_trans hl hm, rfl, ?_⟩
    rcases Nat.eq_zero_or_pos len with rfl | hp
    · exact .inl ⟨rfl, _, _, rfl⟩
    · obtain ⟨b, off, spot⟩ := x
      have hspot : spot = none := by
        have := (hc 0 (by omega)).1
        simpa [Addr.add] using World.cell?_spot this
      subst hspot
      refine .inr ⟨b, off, _, rfl, ?_, fun i hi => ?_⟩
      · have := (hc 0 (by omega)).1
        rw [Go.WideShapes.add_plain] at this
        exact World.block_lt_of_cell? W _ this
      · obtain ⟨h0, h1, t0, t1⟩ := hc i (by omega)
        rw [Go.WideShapes.add_plain] at h0 h1
        obtain ⟨x0, e0, _, _⟩ := DataW.trod_int Tryz.underlying2 t0
        obtain ⟨x1, e1, _, _⟩ := DataW.trod_int Tryz.underlying2 t1
        simp at e0 e1
        rw [e0] at h0
        rw [e1] at h1
        simp only [e0, e1]
        exact ⟨h0, by rw [Nat.add_assoc]; exact h1⟩

theorem eight_at {zs : List Int} (h : zs.length = 8) : ∃ t : Tm, ∀ j, j < 8 → (numsV zs)[j]? = some (.int .i64 (tmAt t j)) := by
  match zs, h with
  | [a, b, c, d, e, f, g, k], _ => exact ⟨⟨a, b, c, d, e, f, g, k⟩, below8 rfl rfl rfl rfl rfl rfl rfl rfl⟩

set_option maxRecDepth 100000 in
/-- a law's list of timers, read as a field -/
theorem timers_field {H : Type} {enc : TypeId × Value → H} {W : World} {fuel : Nat} {v : Value} {y : DataW H × List MemPlace}
    (hf : DataW.trod enc Tryz.prog W 0 (fun _ => true) true fuel 24 [v] = some y) :
    ∃ (n : Nat) (f : Tms), n ≤ maxLen ∧ RowTAt W v n f := by
  have c8 : Tryz.prog.cellsOf 92 = 8 := by kernel_rfl
  obtain ⟨y1, y2⟩ := y
  rcases Go.Deep.open_slice Tryz.underlying24 hf with ⟨hcs, _⟩ | ⟨x, len, cap, m, k, D, Pl, hcs, _, hl, hm, hmm, _, hc⟩
  · simp at hcs
    subst hcs
    exact ⟨0, fun _ => tm0, Nat.zero_le _, .inl ⟨rfl, _, _, rfl⟩⟩
  · simp at hcs hmm
    subst hcs hmm
    have each : ∀ i, i < m → ∃ t : Tm, ∀ j, j < 8 → W.cell? ((x.add (i * 8)).add j) = some (.int .i64 (tmAt t j)) := by
      intro i hi
      obtain ⟨cs', h1, h2⟩ := hc i hi
      rw [c8] at h1
      obtain ⟨_, hlen, hcell⟩ := World.cells?_some h1
      obtain ⟨zs, hz, rfl, _, _⟩ := trod_flat Tryz.underlying92 (I := 2) (by kernel_rfl) Tryz.underlying2 (by kernel_rfl) (by kernel_rfl) h2
      obtain ⟨t, ht⟩ := eight_at hz
      exact ⟨t, fun j hj => (hcell j (by omega)).trans (ht j hj)⟩
    haveI : Inhabited Tm := ⟨tm0⟩
    obtain ⟨f, hfx⟩ := choose_lt each
    refine ⟨len, f, Nat.le_trans hl hm, ?_⟩
    rcases Nat.eq_zero_or_pos len with rfl | hp
    · exact .inl ⟨rfl, _, _, rfl⟩
    · obtain ⟨b, off, spot⟩ := x
      have h00 := hfx 0 (by omega) 0 (by decide)
      have hspot : spot = none := by simpa [Addr.add] using World.cell?_spot h00
      subst hspot
      have h0 := h00
      rw [Go.WideShapes.add_plain, Go.WideShapes.add_plain] at h0
      refine .inr ⟨b, off, _, rfl, World.block_lt_of_cell? W _ h0, fun i hi j hj => ?_⟩
      have := hfx i (by omega) j hj
      rw [Go.WideShapes.add_plain, Go.WideShapes.add_plain] at this
      exact this

set_option maxRecDepth 100000 in
/-- a law's list of processors, read as a field -/
theorem procs_field {H : Type} {enc : TypeId × Value → H} {W : World} {fuel : Nat} {v : Value} {y : DataW H × List MemPlace}
    (hf : DataW.trod enc Tryz.prog W 0 (fun _ => true) true fuel 25 [v] = some y) :
    ∃ (m : Nat) (P : Pcs), m ≤ maxLen ∧ (∀ i, i < m → (P i).n ≤ maxLen) ∧ RowPAt W v m P := by
  have c4 : Tryz.prog.cellsOf 75 = 4 := by kernel_rfl
  obtain ⟨y1, y2⟩ := y
  rcases Go.Deep.open_slice Tryz.underlying25 hf with ⟨hcs, _⟩ | ⟨x, len, cap, m, k, D, Pl, hcs, _, hl, hm, hmm, _, hc⟩
  · simp at hcs
    subst hcs
    exact ⟨0, fun _ => pc0, Nat.zero_le _, fun i hi => by omega, .inl ⟨rfl, _, _, rfl⟩⟩
  · simp at hcs hmm
    subst hcs hmm
    have each : ∀ i, i < m → ∃ p : Pc, p.n ≤ maxLen ∧ ∃ a c, W.cell? ((x.add (i * 4)).add 0) = some (.slice a p.n c) ∧ W.cell? ((x.add (i * 4)).add 1) = some (.int .i64 p.l) ∧ W.cell? ((x.add (i * 4)).add 2) = some (.int .i64 p.e) ∧ W.cell? ((x.add (i * 4)).add 3) = some (.int .i64 p.d) ∧ RowAt W (.slice a p.n c) p.n p.f := by
      intro i hi
      obtain ⟨cs', h1, h2⟩ := hc i hi
      rw [c4] at h1
      obtain ⟨_, hlen, hcell⟩ := World.cells?_some h1
      obtain ⟨xs, n1, _, _, _, hxl, hfx⟩ := DataW.trod_struct Tryz.underlying75 h2
      match cs', hlen with
      | [u0, u1, u2, u3], _ =>
        have g0 := hfx 0 _ rfl
        have g1 := hfx 1 _ rfl
        have g2 := hfx 2 _ rfl
        have g3 := hfx 3 _ rfl
        match xs, hxl with
        | [z0, z1, z2, z3], _ =>
          have k0 : Tryz.prog.cellsOf 73 = 1 := by kernel_rfl
          have k1 : Tryz.prog.cellsOf 2 = 1 := by kernel_rfl
          simp [k0, k1] at g0 g1 g2 g3
          obtain ⟨n, f, a, c, hn, rfl, hr⟩ := slots_fieldM g0
          obtain ⟨x1, e1, _, _⟩ := DataW.trod_int Tryz.underlying2 g1
          obtain ⟨x2, e2, _, _⟩ := DataW.trod_int Tryz.underlying2 g2
          obtain ⟨x3, e3, _, _⟩ := DataW.trod_int Tryz.underlying2 g3
          simp at e1 e2 e3
          subst e1 e2 e3
          exact ⟨⟨n, f, x1, x2, x3⟩, hn, a, c, hcell 0 (by omega), hcell 1 (by omega), hcell 2 (by omega), hcell 3 (by omega), hr⟩
    haveI : Inhabited Pc := ⟨pc0⟩
    obtain ⟨P, hP⟩ := choose_lt each
    refine ⟨len, P, Nat.le_trans hl hm, fun i hi => (hP i (by omega)).1, ?_⟩
    rcases Nat.eq_zero_or_pos len with rfl | hp
    · exact .inl ⟨rfl, _, _, rfl⟩
    · obtain ⟨b, off, spot⟩ := x
      obtain ⟨_, a0, c0, h00, _⟩ := hP 0 (by omega)
      have hspot : spot = none := by simpa [Addr.add] using World.cell?_spot h00
      subst hspot
      have h0 := h00
      rw [Go.WideShapes.add_plain, Go.WideShapes.add_plain] at h0
      refine .inr ⟨b, off, _, rfl, World.block_lt_of_cell? W _ h0, fun i hi => ?_⟩
      obtain ⟨_, a, c, g0, g1, g2, g3, hr⟩ := hP i (by omega)
      rw [Go.WideShapes.add_plain, Go.WideShapes.add_plain] at g0 g1 g2 g3
      exact ⟨a, c, g0, g1, g2, g3, hr⟩

set_option maxRecDepth 100000 in
/-- a law's memory that came in -/
theorem mem_in {H : Type} {enc : TypeId × Value → H} {W : World} {base : Nat} {v : Value} {d : DataW H} {p : List MemPlace}
    (hv : Value.okWide Tryz.prog W .any base 27 v) (h : DataW.Trod enc Tryz.prog W 0 (fun _ => true) true 27 v d p) :
    ∃ (tv pv : Value) (M : Me), v = meV M.c tv pv ∧ M.tn ≤ maxLen ∧ M.pn ≤ maxLen ∧ (∀ i, i < M.pn → (M.p i).n ≤ maxLen) ∧ MemAt W tv pv M := by
  obtain ⟨c0, tv, pv, y0, y1, y2, m, rfl, _, _, h0, h1, h2⟩ := open_agg3 Tryz.underlying27 (by kernel_rfl) (by kernel_rfl) hv h
  obtain ⟨x, e0, _, _⟩ := DataW.trod_int Tryz.underlying2 h0
  simp at e0
  subst e0
  obtain ⟨tn, t, htn, hT⟩ := timers_field h1
  obtain ⟨pn, P, hpn, hn, hP⟩ := procs_field h2
  exact ⟨tv, pv, ⟨x, tn, t, pn, P⟩, rfl, htn, hpn, hn, hT, hP⟩

set_option maxRecDepth 100000 in
/-- a law's plan that came in -/
theorem plan_inM {H : Type} {enc : TypeId × Value → H} {W : World} {base : Nat} {v : Value} {d : DataW H} {p : List MemPlace}
    (hv : Value.okWide Tryz.prog W .any base 23 v) (h : DataW.Trod enc Tryz.prog W 0 (fun _ => true) true 23 v d p) :
    ∃ a b c : Int, v = .agg #[.int .i64 a, .int .i64 b, .int .i64 c] := by
  obtain ⟨c0, c1, c2, y0, y1, y2, m, rfl, _, _, h0, h1, h2⟩ := open_agg3 Tryz.underlying23 (by kernel_rfl) (by kernel_rfl) hv h
  obtain ⟨x, e1, _, _⟩ := DataW.trod_int Tryz.underlying2 h0
  obtain ⟨y, e2, _, _⟩ := DataW.trod_int Tryz.underlying2 h1
  obtain ⟨z, e3, _, _⟩ := DataW.trod_int Tryz.underlying2 h2
  simp at e1 e2 e3
  subst e1 e2 e3
  exact ⟨x, y, z, rfl⟩

end Go.Proofs.YtflekodaiejflaaGreat

/-
  FnExactNewMem, told what the program answers.
-/
namespace Go.Proofs.YtflekodaiejflaaGreat
open Go.RowKit Go.Joins Go.ChangeShapes Go.WideShapes Go.ChangeAt Go.Deep
set_option linter.unusedVariables false
set_option linter.unusedSimpArgs false

/-- what the program's NewMem is to answer -/
def AsksNM (fn : FuncId) : Prop := ∀ (a b c : Int) (w : World), Calls Tryz.prog fn #[.agg #[.int .i64 a, .int .i64 b, .int .i64 c]] w (NewMe (newM a b c) w)
theorem sizeM_new (a b c : Int) : sizeM (newM a b c) ≤ 1048576 := by
  unfold newM
  split
  · rename_i h
    have := planB_iff.1 h
    have key : ∀ k, slotsP (fun _ => (⟨0, fun _ => (0, 0), -1, -1, 0⟩ : Pc)) k = 0 := by
      intro k
      induction k with
      | zero => rfl
      | succ k ih => rw [slotsP, ih]; rfl
    unfold sizeM
    simp only [key]
    omega
  · decide

end Go.Proofs.YtflekodaiejflaaGreat

/-
  A memory as the program works with it (chapter 5): shown, later, new: Elapsed and NewMem.
-/
namespace Go.Proofs.YtflekodaiejflaaGreat
open Go.RowKit Go.Joins
set_option linter.unusedVariables false
set_option linter.unusedSimpArgs false

set_option maxRecDepth 100000 in
set_option maxHeartbeats 1000000 in
theorem pxShown_any {v : Value} {n : Nat} (l e d : Int) {w : World} (hv : ∃ a cap, v = .slice a n cap) :
    Calls Tryz.prog 103 #[pxV v l e d] w fun x w' => x = .returned (prV v l e d) ∧ Below w.heap.size w w' := by
  obtain ⟨a, cap, rfl⟩ := hv
  have k0 := (Below.refl w.heap.size w).alloc (Nat.le_refl _) (pxB (.slice a n cap) l e d)
  have hR := heap_alloc_new (w.alloc (pxB (.slice a n cap) l e d)) (.cells #[.slice a n cap, .int .i64 l, .int .i64 e, .int .i64 d] 87)
  rw [show (w.alloc (pxB (.slice a n cap) l e d)).heap.size = w.heap.size + 1 by simp] at hR
  obtain ⟨r0, r1, r2, r3, _, _, _, _⟩ := four hR
  go_enter Tryz.func103, Tryz.ntmps103
  go_wp2
  exact bodyPost_ret (v := prV (.slice a n cap) l e d) (by simp [results, Tryz.results103, go_sem, r0, r1, r2, r3]) rfl ⟨rfl, k0.alloc k0.size _⟩

abbrev madeP (n : Nat) : Obj := .cells (madeCells #[.slice none 0 0, .int .i64 0, .int .i64 0, .int .i64 0] (n * 4)) 87

set_option maxRecDepth 100000 in
set_option maxHeartbeats 8000000 in
theorem memShown_any {B mb : Nat} {a b c : Int} {M : Me} {w : World} (hs : sizeM M ≤ 1048576) (hB : B ≤ w.heap.size) (h : OwnedAt w B mb a b c M) :
    Calls Tryz.prog 75 #[ptrV mb] w fun x w' => ∃ tv pv, x = .returned (meV M.c tv pv) ∧ OwnMem w' B tv pv M ∧ Below w.heap.size w w' := by
  obtain ⟨htn, hpn, hsl, hns⟩ := sizeM_le hs
  obtain ⟨tv, g, V, hmB, hM, hT, hL, hH⟩ := h
  obtain ⟨ta, tc, htv⟩ := hT.row.form
  subst htv
  have hmk := run_make_procs M.pn hpn
  have lM := lt_of_block hM
  have e0 : (w.alloc (memO 0 (.slice none 0 0) (.slice none 0 0) 36)).heap.size = w.heap.size + 1 := by simp
  have k0 := (Below.refl w.heap.size w).alloc (Nat.le_refl _) (memO 0 (.slice none 0 0) (.slice none 0 0) 36)
  have hR := alloc_block (madeP M.pn) (heap_alloc_new w (memO 0 (.slice none 0 0) (.slice none 0 0) 36))
  have k1 := k0.alloc k0.size (madeP M.pn)
  have hN := (list_made (w.alloc (memO 0 (.slice none 0 0) (.slice none 0 0) 36)) M.pn (by unfold maxLen; omega)).congr (Q := upToP M.p 0) (U := fun _ => .slice none 0 0) (fun i hi => by simp [upToP]) (fun _ _ => rfl)
  rw [e0] at hN
  have HM := Lib.hid hM
  have HL := Lib.hid hL
  have HH := Lib.hid hH
  have HT := Lib.hid hT
  obtain ⟨m0, m1, m2, m3, m4, m5⟩ := six (b_block k0 hM lM)
  obtain ⟨n0, n1, n2, n3, n4, n5⟩ := six (b_block k1 hM lM)
  clear hM hL hH hT hns hsl
  go_enter Tryz.func75, Tryz.ntmps75
  go_wp2_with fail
  generalize (w.alloc (memO 0 (.slice none 0 0) (.slice none 0 0) 36)).alloc (madeP M.pn) = w2 at k1 hR hN n0 n1 n2 n3 n4 n5 ⊢
  clear m0 m1 m2 m3 m4 m5 k0 hmk e0
  go_wp2_with fail
  clear n0 n1 n2 n3 n4 n5
  go_loopw [17] (fun i wr => ∃ (k : Nat) (U : Nat → Value), k ≤ M.pn ∧ i = .int .i64 k ∧ wr.heap[w.heap.size]? = some (memO 0 (.slice none 0 0) (.slice none 0 0) 36) ∧ ListAt wr (w.heap.size + 1) (w.heap.size + 1) M.pn M.pn (upToP M.p k) U ∧ (∀ i, i < k → U i = V i) ∧ Below w.heap.size w wr) (fun i _ => M.pn - (intOf i).toNat)
  case atStart => exact ⟨0, _, Nat.zero_le _, rfl, hR, hN, fun i hi => absurd hi (Nat.not_lt_zero _), k1⟩
  case round =>
    clear hR hN k1
    obtain ⟨k, U, hk, rfl, hR, hN, hU, kw⟩ := hrel
    obtain ⟨n0, n1, n2, n3, n4, n5⟩ := six (b_block kw HM.out lM)
    by_cases hlt : k < M.pn
    · have i1 : (k : Int) < (M.pn : Int) := by omega
      have i0 : (0 : Int) ≤ (k : Int) := by omega
      have hO := HH.out.1 k hlt
      obtain ⟨oa, oc, ho⟩ := hO.value
      have hLr := HL.out.below kw
      obtain ⟨d0, d1, d2, d3⟩ := hLr.cells hlt
      rw [ho] at d1
      have hNa := hN.below ((Below.refl wr.heap.size wr).alloc (Nat.le_refl _) (pxB (.slice oa (M.p k).n oc) (M.p k).l (M.p k).e (M.p k).d))
      have hRa := alloc_block (pxB (.slice oa (M.p k).n oc) (M.p k).l (M.p k).e (M.p k).d) hR
      have ka := kw.alloc kw.size (pxB (.slice oa (M.p k).n oc) (M.p k).l (M.p k).e (M.p k).d)
      have hX := heap_alloc_new wr (pxB (.slice oa (M.p k).n oc) (M.p k).l (M.p k).e (M.p k).d)
      obtain ⟨x0, x1, x2, x3, _, _, _, _⟩ := four hX
      go_wp2_with fail
      go_at_call 103; refine (pxShown_any _ _ _ ⟨_, _, rfl⟩).mono ?_; rintro x w5 ⟨rfl, hb⟩
      have hN5 := hNa.below hb
      have hR5 := b_block hb hRa (lt_of_block hRa)
      have k5 := ka.trans (hb.mono ka.size)
      have fr := hN5.free
      have f0 := fr (k * 4); have f1 := fr (k * 4 + 1); have f2 := fr (k * 4 + 2); have f3 := fr (k * 4 + 3)
      obtain ⟨c0, c1, c2, c3⟩ := hN5.cells hlt
      have hNn := (hN5.put hlt (.slice oa (M.p k).n oc) (M.p k)).congr (upToP_put (P := M.p)) (fun _ _ => rfl)
      have hRn := (heap_setP w5 (w.heap.size + 1) k (.slice oa (M.p k).n oc) (M.p k).l (M.p k).e (M.p k).d (x := w.heap.size) (by omega)).trans hR5
      have kn := b_setP k5 (g := w.heap.size + 1) (by omega) k (.slice oa (M.p k).n oc) (M.p k).l (M.p k).e (M.p k).d
      have hUn : ∀ i, i < k + 1 → putV U k (.slice oa (M.p k).n oc) i = V i := fun i hi => by
        by_cases e : i = k
        · subst e; rw [putV_same, ho]
        · rw [putV_other U _ e]; exact hU i (by omega)
      clear hb fr d0 d1 d2 d3 x0 x1 x2 x3 n0 n1 n2 n3 n4 n5 hN5 hR5 hNa hRa ka k5 hX
      go_wp2
      exact ⟨⟨k + 1, _, by omega, by go_num, hRn, hNn, hUn, kn⟩, by simp only [intOf]; omega⟩
    · have hkn : k = M.pn := by omega
      subst hkn
      have i1 : ¬ (M.pn : Int) < (M.pn : Int) := by omega
      have hNf := hN.congr (Q := M.p) (U := V) (fun i hi => by simp [upToP, hi]) (fun i hi => hU i hi)
      have lR := lt_of_block hR
      have ks := b_set3 kw (Nat.le_refl _) (.int .i64 M.c) (.slice ta M.tn tc) (.slice (some ⟨w.heap.size + 1, 0, none⟩) M.pn M.pn)
      have hTf := HT.out.below kw
      have hHf := HH.out.below kw
      obtain ⟨r0, r1, r2, rf0, rf1, rf2⟩ := three hR
      go_wp2_with fail
      go_region
      have hTn := hTf.other (w' := (((wr.setCell ⟨w.heap.size, 0, none⟩ (.int .i64 M.c)).setCell ⟨w.heap.size, 1, none⟩ (.slice ta M.tn tc)).setCell ⟨w.heap.size, 2, none⟩ (.slice (some ⟨w.heap.size + 1, 0, none⟩) M.pn M.pn)).drew) hR (by decide) (fun y hy => heap_set3 wr _ _ _ _ hy)
      have hHn : HeapsAt (((wr.setCell ⟨w.heap.size, 0, none⟩ (.int .i64 M.c)).setCell ⟨w.heap.size, 1, none⟩ (.slice ta M.tn tc)).setCell ⟨w.heap.size, 2, none⟩ (.slice (some ⟨w.heap.size + 1, 0, none⟩) M.pn M.pn)).drew B M.pn M.p V :=
        hHf.other (fun i hi x hx => heap_set3 wr _ _ _ _ (own_ne (hHf.1 i hi) hR (by decide) x hx))
      have hLn : ListAt (((wr.setCell ⟨w.heap.size, 0, none⟩ (.int .i64 M.c)).setCell ⟨w.heap.size, 1, none⟩ (.slice ta M.tn tc)).setCell ⟨w.heap.size, 2, none⟩ (.slice (some ⟨w.heap.size + 1, 0, none⟩) M.pn M.pn)).drew B (w.heap.size + 1) M.pn M.pn M.p V :=
        (hNf.mono (by omega)).block (heap_set3 wr w.heap.size _ _ _ (by omega))
      have hRn : (((wr.setCell ⟨w.heap.size, 0, none⟩ (.int .i64 M.c)).setCell ⟨w.heap.size, 1, none⟩ (.slice ta M.tn tc)).setCell ⟨w.heap.size, 2, none⟩ (.slice (some ⟨w.heap.size + 1, 0, none⟩) M.pn M.pn)).drew.heap[w.heap.size]? = some (memO M.c (.slice ta M.tn tc) (.slice (some ⟨w.heap.size + 1, 0, none⟩) M.pn M.pn) 36) := block_set3 hR
      have kn := ks.drew
      clear r0 r1 r2 rf0 rf1 rf2
      obtain ⟨r0, r1, r2, _, _, _⟩ := three hRn
      generalize (((wr.setCell ⟨w.heap.size, 0, none⟩ (.int .i64 M.c)).setCell ⟨w.heap.size, 1, none⟩ (.slice ta M.tn tc)).setCell ⟨w.heap.size, 2, none⟩ (.slice (some ⟨w.heap.size + 1, 0, none⟩) M.pn M.pn)).drew = wz at hTn hHn hLn r0 r1 r2 kn ⊢
      go_wp2
      exact bodyPost_ret (v := meV M.c (.slice ta M.tn tc) (.slice (some ⟨w.heap.size + 1, 0, none⟩) M.pn M.pn)) (by simp [results, Tryz.results75, go_sem, r0, r1, r2]) rfl ⟨_, _, rfl, ⟨hTn, .inr ⟨_, _, V, rfl, hLn, hHn⟩⟩, kn⟩

end Go.Proofs.YtflekodaiejflaaGreat

/-
  A step while it is made, in the program (chapter 9): begun, and shown.
-/
namespace Go.Proofs.YtflekodaiejflaaGreat
open Go.Deep Go.RowKit Go.Joins
set_option linter.unusedVariables false
set_option linter.unusedSimpArgs false

set_option maxRecDepth 100000 in
set_option maxHeartbeats 8000000 in
theorem newDeed_no (a b c d : Int) (h : Hd) {tv pv : Value} {M : Me} {w : World} (hs : sizeM M ≤ 1048576) (hm : MemAt w tv pv M) (hf : stepFit a b c d M h = false) :
    Calls Tryz.prog 46 #[.agg #[.int .i64 a, .int .i64 b, .int .i64 c], meV M.c tv pv, .int .i64 d, hdV h] w (GaveUp w.heap.size w) := by
  obtain ⟨va, vc, qa, qc, rfl, rfl⟩ := hm.form
  have k0 := (((Below.refl w.heap.size w).alloc (Nat.le_refl _) (.cells #[.int .i64 a, .int .i64 b, .int .i64 c] 46)).alloc (by simp) (memO M.c (.slice va M.tn vc) (.slice qa M.pn qc) 36)).alloc (by simp; omega) (.cells (hdCells h) 39)
  have hP := alloc_block (.cells (hdCells h) 39) (alloc_block (memO M.c (.slice va M.tn vc) (.slice qa M.pn qc) 36) (heap_alloc_new w (.cells #[.int .i64 a, .int .i64 b, .int .i64 c] 46)))
  have hX := heap_alloc_new (w.alloc (.cells #[.int .i64 a, .int .i64 b, .int .i64 c] 46)) (memO M.c (.slice va M.tn vc) (.slice qa M.pn qc) 36)
  rw [show (w.alloc (.cells #[.int .i64 a, .int .i64 b, .int .i64 c] 46)).heap.size = w.heap.size + 1 by simp] at hX
  replace hX := alloc_block (.cells (hdCells h) 39) hX
  have hH := heap_alloc_new ((w.alloc (.cells #[.int .i64 a, .int .i64 b, .int .i64 c] 46)).alloc (memO M.c (.slice va M.tn vc) (.slice qa M.pn qc) 36)) (.cells (hdCells h) 39)
  rw [show ((w.alloc (.cells #[.int .i64 a, .int .i64 b, .int .i64 c] 46)).alloc (memO M.c (.slice va M.tn vc) (.slice qa M.pn qc) 36)).heap.size = w.heap.size + 1 + 1 by simp] at hH
  have HM := Lib.hid (hm.below k0)
  have HF := Lib.hid hf
  clear hm hf
  go_enter Tryz.func46, Tryz.ntmps46
  go_upto_region 1 with fail
  generalize ((w.alloc (.cells #[.int .i64 a, .int .i64 b, .int .i64 c] 46)).alloc (memO M.c (.slice va M.tn vc) (.slice qa M.pn qc) 36)).alloc (.cells (hdCells h) 39) = w1 at k0 hP hX hH HM ⊢
  obtain ⟨p0, p1, p2, _, _, _⟩ := three hP
  obtain ⟨x0, x1, x2, _, _, _⟩ := three hX
  obtain ⟨h0, h1, h2, h3, h4, h5, h6, h7, h8, h9, h10, h11, _⟩ := twelve hH
  go_wp2_with fail
  go_at_call 73; refine (imFit_any a b c d h hs HM.out).mono ?_; rw [HF.out]; rintro e w2 ⟨rfl, hb⟩
  clear p0 p1 p2 x0 x1 x2 h0 h1 h2 h3 h4 h5 h6 h7 h8 h9 h10 h11 hP hX hH
  go_wp2_with (go_at_call 54; refine (giveUp_any _).mono ?_; rintro e w1 ⟨⟨u, pv, rfl⟩, rfl⟩)
  exact ⟨rfl, ⟨_, _, rfl⟩, k0.trans (hb.mono k0.size)⟩

set_option maxRecDepth 100000 in
set_option maxHeartbeats 8000000 in
theorem newDeed_yes (a b c d : Int) (h : Hd) {tv pv : Value} {M : Me} {w : World} (hs : sizeM M ≤ 1048576) (hm : MemAt w tv pv M) (hf : stepFit a b c d M h = true) :
    Calls Tryz.prog 46 #[.agg #[.int .i64 a, .int .i64 b, .int .i64 c], meV M.c tv pv, .int .i64 d, hdV h] w fun e w' => ∃ mb db, e = .returned (ptrV db) ∧ DeedX w' w.heap.size mb db a b c d ⟨M, h, et0⟩ ∧ Below w.heap.size w w' := by
  have hok : memOkB a b c M = true := by rw [stepFit, Bool.and_eq_true] at hf; exact hf.1
  obtain ⟨va, vc, qa, qc, rfl, rfl⟩ := hm.form
  have k0 := (((Below.refl w.heap.size w).alloc (Nat.le_refl _) (.cells #[.int .i64 a, .int .i64 b, .int .i64 c] 46)).alloc (by simp) (memO M.c (.slice va M.tn vc) (.slice qa M.pn qc) 36)).alloc (by simp; omega) (.cells (hdCells h) 39)
  have hP := alloc_block (.cells (hdCells h) 39) (alloc_block (memO M.c (.slice va M.tn vc) (.slice qa M.pn qc) 36) (heap_alloc_new w (.cells #[.int .i64 a, .int .i64 b, .int .i64 c] 46)))
  have hX := heap_alloc_new (w.alloc (.cells #[.int .i64 a, .int .i64 b, .int .i64 c] 46)) (memO M.c (.slice va M.tn vc) (.slice qa M.pn qc) 36)
  rw [show (w.alloc (.cells #[.int .i64 a, .int .i64 b, .int .i64 c] 46)).heap.size = w.heap.size + 1 by simp] at hX
  replace hX := alloc_block (.cells (hdCells h) 39) hX
  have hH := heap_alloc_new ((w.alloc (.cells #[.int .i64 a, .int .i64 b, .int .i64 c] 46)).alloc (memO M.c (.slice va M.tn vc) (.slice qa M.pn qc) 36)) (.cells (hdCells h) 39)
  rw [show ((w.alloc (.cells #[.int .i64 a, .int .i64 b, .int .i64 c] 46)).alloc (memO M.c (.slice va M.tn vc) (.slice qa M.pn qc) 36)).heap.size = w.heap.size + 1 + 1 by simp] at hH
  have HM := Lib.hid (hm.below k0)
  have HF := Lib.hid hf
  clear hm hf
  go_enter Tryz.func46, Tryz.ntmps46
  go_upto_region 1 with fail
  generalize ((w.alloc (.cells #[.int .i64 a, .int .i64 b, .int .i64 c] 46)).alloc (memO M.c (.slice va M.tn vc) (.slice qa M.pn qc) 36)).alloc (.cells (hdCells h) 39) = w1 at k0 hP hX hH HM ⊢
  obtain ⟨p0, p1, p2, _, _, _⟩ := three hP
  obtain ⟨x0, x1, x2, _, _, _⟩ := three hX
  obtain ⟨h0, h1, h2, h3, h4, h5, h6, h7, h8, h9, h10, h11, _⟩ := twelve hH
  go_wp2_with fail
  go_at_call 73; refine (imFit_any a b c d h hs HM.out).mono ?_; rw [HF.out]; rintro e w2 ⟨rfl, hb⟩
  have k2 := k0.trans (hb.mono k0.size)
  replace hP := b_block hb hP (lt_of_block hP)
  replace hX := b_block hb hX (lt_of_block hX)
  replace hH := b_block hb hH (lt_of_block hH)
  have HM2 := Lib.hid (HM.out.below hb)
  clear p0 p1 p2 x0 x1 x2 h0 h1 h2 h3 h4 h5 h6 h7 h8 h9 h10 h11 hb k0 HM
  have lP := lt_of_block hP
  have lX := lt_of_block hX
  have lH := lt_of_block hH
  obtain ⟨p0, p1, p2, _, _, _⟩ := three hP
  obtain ⟨x0, x1, x2, _, _, _⟩ := three hX
  obtain ⟨h0, h1, h2, h3, h4, h5, h6, h7, h8, h9, h10, h11, _⟩ := twelve hH
  go_upto_region 3 with fail
  refine wp_region_T (fun w' => w'.cell? ⟨w.heap.size, 0, none⟩ = some (.int .i64 a) ∧ w'.cell? ⟨w.heap.size, 1, none⟩ = some (.int .i64 b) ∧ w'.cell? ⟨w.heap.size, 2, none⟩ = some (.int .i64 c) ∧ w'.cell? ⟨w.heap.size + 1, 0, none⟩ = some (.int .i64 M.c) ∧ w'.cell? ⟨w.heap.size + 1, 1, none⟩ = some (.slice va M.tn vc) ∧ w'.cell? ⟨w.heap.size + 1, 2, none⟩ = some (.slice qa M.pn qc) ∧ w'.cell? ⟨w.heap.size + 1 + 1, 0, none⟩ = some (.int .i64 h.pos) ∧ w'.cell? ⟨w.heap.size + 1 + 1, 1, none⟩ = some (.int .i64 h.call.code) ∧ w'.cell? ⟨w.heap.size + 1 + 1, 2, none⟩ = some (.int .i64 h.call.a) ∧ w'.cell? ⟨w.heap.size + 1 + 1, 3, none⟩ = some (.int .i64 h.call.b) ∧ w'.cell? ⟨w.heap.size + 1 + 1, 4, none⟩ = some (.int .i64 h.call.c) ∧ w'.cell? ⟨w.heap.size + 1 + 1, 5, none⟩ = some (.int .i64 h.tim) ∧ w'.cell? ⟨w.heap.size + 1 + 1, 6, none⟩ = some (.int .i64 h.whe) ∧ w'.cell? ⟨w.heap.size + 1 + 1, 7, none⟩ = some (.bool h.had) ∧ w'.cell? ⟨w.heap.size + 1 + 1, 8, none⟩ = some (.int .i64 h.cnt) ∧ w'.cell? ⟨w.heap.size + 1 + 1, 9, none⟩ = some (.int .i64 h.beg) ∧ w'.cell? ⟨w.heap.size + 1 + 1, 10, none⟩ = some (.int .i64 h.rep) ∧ w'.cell? ⟨w.heap.size + 1 + 1, 11, none⟩ = some (.int .i64 h.out)) 7 (by kernel_rfl) ?_
  have hS : w2.drew.cell? ⟨w.heap.size, 0, none⟩ = some (.int .i64 a) ∧ w2.drew.cell? ⟨w.heap.size, 1, none⟩ = some (.int .i64 b) ∧ w2.drew.cell? ⟨w.heap.size, 2, none⟩ = some (.int .i64 c) ∧ w2.drew.cell? ⟨w.heap.size + 1, 0, none⟩ = some (.int .i64 M.c) ∧ w2.drew.cell? ⟨w.heap.size + 1, 1, none⟩ = some (.slice va M.tn vc) ∧ w2.drew.cell? ⟨w.heap.size + 1, 2, none⟩ = some (.slice qa M.pn qc) ∧ w2.drew.cell? ⟨w.heap.size + 1 + 1, 0, none⟩ = some (.int .i64 h.pos) ∧ w2.drew.cell? ⟨w.heap.size + 1 + 1, 1, none⟩ = some (.int .i64 h.call.code) ∧ w2.drew.cell? ⟨w.heap.size + 1 + 1, 2, none⟩ = some (.int .i64 h.call.a) ∧ w2.drew.cell? ⟨w.heap.size + 1 + 1, 3, none⟩ = some (.int .i64 h.call.b) ∧ w2.drew.cell? ⟨w.heap.size + 1 + 1, 4, none⟩ = some (.int .i64 h.call.c) ∧ w2.drew.cell? ⟨w.heap.size + 1 + 1, 5, none⟩ = some (.int .i64 h.tim) ∧ w2.drew.cell? ⟨w.heap.size + 1 + 1, 6, none⟩ = some (.int .i64 h.whe) ∧ w2.drew.cell? ⟨w.heap.size + 1 + 1, 7, none⟩ = some (.bool h.had) ∧ w2.drew.cell? ⟨w.heap.size + 1 + 1, 8, none⟩ = some (.int .i64 h.cnt) ∧ w2.drew.cell? ⟨w.heap.size + 1 + 1, 9, none⟩ = some (.int .i64 h.beg) ∧ w2.drew.cell? ⟨w.heap.size + 1 + 1, 10, none⟩ = some (.int .i64 h.rep) ∧ w2.drew.cell? ⟨w.heap.size + 1 + 1, 11, none⟩ = some (.int .i64 h.out) := ⟨p0, p1, p2, x0, x1, x2, h0, h1, h2, h3, h4, h5, h6, h7, h8, h9, h10, h11⟩
  refine wpAnyT_take (i := 0) (v := ?v0_1) rfl (by kernel_rfl) (by kernel_rfl) (by kernel_rfl) (by kernel_rfl) (fun _ _ _ h => h) (Or.inl ⟨by rfl, ?hy0_1⟩) hS ?rest0_1
  case hy0_1 => intro w' hSw; obtain ⟨s0, s1, s2, s3, s4, s5, s6, s7, s8, s9, s10, s11, s12, s13, s14, s15, s16, s17⟩ := hSw; go_simp; try with_reducible rfl
  simp only [Act.put, List.setIfInBounds_toArray, List.set_cons_zero, List.set_cons_succ]
  refine wpAnyT_take (i := 1) (v := ?v1_2) rfl (by kernel_rfl) (by kernel_rfl) (by kernel_rfl) (by kernel_rfl) (fun _ _ _ h => h) (Or.inl ⟨by rfl, ?hy1_2⟩) hS ?rest1_2
  case hy1_2 => intro w' hSw; obtain ⟨s0, s1, s2, s3, s4, s5, s6, s7, s8, s9, s10, s11, s12, s13, s14, s15, s16, s17⟩ := hSw; go_simp; try with_reducible rfl
  simp only [Act.put, List.setIfInBounds_toArray, List.set_cons_zero, List.set_cons_succ]
  refine wpAnyT_take (i := 3) (v := ?v3_3) rfl (by kernel_rfl) (by kernel_rfl) (by kernel_rfl) (by kernel_rfl) (fun _ _ _ h => h) (Or.inl ⟨by rfl, ?hy3_3⟩) hS ?rest3_3
  case hy3_3 => intro w' hSw; obtain ⟨s0, s1, s2, s3, s4, s5, s6, s7, s8, s9, s10, s11, s12, s13, s14, s15, s16, s17⟩ := hSw; go_simp; try with_reducible rfl
  simp only [Act.put, List.setIfInBounds_toArray, List.set_cons_zero, List.set_cons_succ]
  refine wpAnyT_take (i := 4) (v := ?v4_4) rfl (by kernel_rfl) (by kernel_rfl) (by kernel_rfl) (by kernel_rfl) (fun _ _ _ h => h) (Or.inl ⟨by rfl, ?hy4_4⟩) hS ?rest4_4
  case hy4_4 => intro w' hSw; obtain ⟨s0, s1, s2, s3, s4, s5, s6, s7, s8, s9, s10, s11, s12, s13, s14, s15, s16, s17⟩ := hSw; go_simp; try with_reducible rfl
  simp only [Act.put, List.setIfInBounds_toArray, List.set_cons_zero, List.set_cons_succ]
  refine wpAnyT_one (i := 2) (by kernel_rfl) rfl (by rfl) fun K hK => ?_
  go_simp
  have kd := (Below.refl w2.heap.size w2).drew
  go_at_call 74; refine (ownMemory_yes a b c hs (HM2.out.below kd) hok).mono ?_; rintro e w3 ⟨mb, rfl, hO, hb⟩
  have k3 := k2.trans ((kd.trans hb).mono k2.size)
  have hb3 : Below w2.heap.size w2 w3 := kd.trans hb
  replace hP := b_block hb3 hP lP
  replace hX := b_block hb3 hX lX
  replace hH := b_block hb3 hH lH
  replace hO := hO.mono (B' := w.heap.size) k2.size
  have q0 := three hP
  have q1 := three hX
  have q2 := twelve hH
  have hS3 : w3.cell? ⟨w.heap.size, 0, none⟩ = some (.int .i64 a) ∧ w3.cell? ⟨w.heap.size, 1, none⟩ = some (.int .i64 b) ∧ w3.cell? ⟨w.heap.size, 2, none⟩ = some (.int .i64 c) ∧ w3.cell? ⟨w.heap.size + 1, 0, none⟩ = some (.int .i64 M.c) ∧ w3.cell? ⟨w.heap.size + 1, 1, none⟩ = some (.slice va M.tn vc) ∧ w3.cell? ⟨w.heap.size + 1, 2, none⟩ = some (.slice qa M.pn qc) ∧ w3.cell? ⟨w.heap.size + 1 + 1, 0, none⟩ = some (.int .i64 h.pos) ∧ w3.cell? ⟨w.heap.size + 1 + 1, 1, none⟩ = some (.int .i64 h.call.code) ∧ w3.cell? ⟨w.heap.size + 1 + 1, 2, none⟩ = some (.int .i64 h.call.a) ∧ w3.cell? ⟨w.heap.size + 1 + 1, 3, none⟩ = some (.int .i64 h.call.b) ∧ w3.cell? ⟨w.heap.size + 1 + 1, 4, none⟩ = some (.int .i64 h.call.c) ∧ w3.cell? ⟨w.heap.size + 1 + 1, 5, none⟩ = some (.int .i64 h.tim) ∧ w3.cell? ⟨w.heap.size + 1 + 1, 6, none⟩ = some (.int .i64 h.whe) ∧ w3.cell? ⟨w.heap.size + 1 + 1, 7, none⟩ = some (.bool h.had) ∧ w3.cell? ⟨w.heap.size + 1 + 1, 8, none⟩ = some (.int .i64 h.cnt) ∧ w3.cell? ⟨w.heap.size + 1 + 1, 9, none⟩ = some (.int .i64 h.beg) ∧ w3.cell? ⟨w.heap.size + 1 + 1, 10, none⟩ = some (.int .i64 h.rep) ∧ w3.cell? ⟨w.heap.size + 1 + 1, 11, none⟩ = some (.int .i64 h.out) := ⟨q0.1, q0.2.1, q0.2.2.1, q1.1, q1.2.1, q1.2.2.1, q2.1, q2.2.1, q2.2.2.1, q2.2.2.2.1, q2.2.2.2.2.1, q2.2.2.2.2.2.1, q2.2.2.2.2.2.2.1, q2.2.2.2.2.2.2.2.1, q2.2.2.2.2.2.2.2.2.1, q2.2.2.2.2.2.2.2.2.2.1, q2.2.2.2.2.2.2.2.2.2.2.1, q2.2.2.2.2.2.2.2.2.2.2.2.1⟩
  refine hK _ _ (.inr hS3) ?_
  clear hK K
  (try simp only [Act.put, List.setIfInBounds_toArray, List.set_cons_zero, List.set_cons_succ])
  refine wpAnyT_take (i := 5) (v := ?v5_5) rfl (by kernel_rfl) (by kernel_rfl) (by kernel_rfl) (by kernel_rfl) (fun _ _ _ h => h) (Or.inl ⟨by rfl, ?hy5_5⟩) hS3 ?rest5_5
  case hy5_5 => intro w' hSw; obtain ⟨s0, s1, s2, s3, s4, s5, s6, s7, s8, s9, s10, s11, s12, s13, s14, s15, s16, s17⟩ := hSw; go_simp; try with_reducible rfl
  simp only [Act.put, List.setIfInBounds_toArray, List.set_cons_zero, List.set_cons_succ]
  refine wpAnyT_one (i := 6) (by kernel_rfl) rfl (by rfl) fun K hK => ?_
  go_simp
  have kN := (Below.refl w3.heap.size w3).alloc (Nat.le_refl _) (ddO mb d h et0)
  have hS4 : (w3.alloc (ddO mb d h et0)).cell? ⟨w.heap.size, 0, none⟩ = some (.int .i64 a) ∧ (w3.alloc (ddO mb d h et0)).cell? ⟨w.heap.size, 1, none⟩ = some (.int .i64 b) ∧ (w3.alloc (ddO mb d h et0)).cell? ⟨w.heap.size, 2, none⟩ = some (.int .i64 c) ∧ (w3.alloc (ddO mb d h et0)).cell? ⟨w.heap.size + 1, 0, none⟩ = some (.int .i64 M.c) ∧ (w3.alloc (ddO mb d h et0)).cell? ⟨w.heap.size + 1, 1, none⟩ = some (.slice va M.tn vc) ∧ (w3.alloc (ddO mb d h et0)).cell? ⟨w.heap.size + 1, 2, none⟩ = some (.slice qa M.pn qc) ∧ (w3.alloc (ddO mb d h et0)).cell? ⟨w.heap.size + 1 + 1, 0, none⟩ = some (.int .i64 h.pos) ∧ (w3.alloc (ddO mb d h et0)).cell? ⟨w.heap.size + 1 + 1, 1, none⟩ = some (.int .i64 h.call.code) ∧ (w3.alloc (ddO mb d h et0)).cell? ⟨w.heap.size + 1 + 1, 2, none⟩ = some (.int .i64 h.call.a) ∧ (w3.alloc (ddO mb d h et0)).cell? ⟨w.heap.size + 1 + 1, 3, none⟩ = some (.int .i64 h.call.b) ∧ (w3.alloc (ddO mb d h et0)).cell? ⟨w.heap.size + 1 + 1, 4, none⟩ = some (.int .i64 h.call.c) ∧ (w3.alloc (ddO mb d h et0)).cell? ⟨w.heap.size + 1 + 1, 5, none⟩ = some (.int .i64 h.tim) ∧ (w3.alloc (ddO mb d h et0)).cell? ⟨w.heap.size + 1 + 1, 6, none⟩ = some (.int .i64 h.whe) ∧ (w3.alloc (ddO mb d h et0)).cell? ⟨w.heap.size + 1 + 1, 7, none⟩ = some (.bool h.had) ∧ (w3.alloc (ddO mb d h et0)).cell? ⟨w.heap.size + 1 + 1, 8, none⟩ = some (.int .i64 h.cnt) ∧ (w3.alloc (ddO mb d h et0)).cell? ⟨w.heap.size + 1 + 1, 9, none⟩ = some (.int .i64 h.beg) ∧ (w3.alloc (ddO mb d h et0)).cell? ⟨w.heap.size + 1 + 1, 10, none⟩ = some (.int .i64 h.rep) ∧ (w3.alloc (ddO mb d h et0)).cell? ⟨w.heap.size + 1 + 1, 11, none⟩ = some (.int .i64 h.out) := by
    obtain ⟨c0, c1, c2, c3, c4, c5, c6, c7, c8, c9, c10, c11, c12, c13, c14, c15, c16, c17⟩ := hS3
    have l1 := lt_of_block hP
    have l2 := lt_of_block hX
    have l3 := lt_of_block hH
    exact ⟨(kN.cell (p := ⟨w.heap.size, 0, none⟩) l1).trans c0, (kN.cell (p := ⟨w.heap.size, 1, none⟩) l1).trans c1, (kN.cell (p := ⟨w.heap.size, 2, none⟩) l1).trans c2, (kN.cell (p := ⟨w.heap.size + 1, 0, none⟩) l2).trans c3, (kN.cell (p := ⟨w.heap.size + 1, 1, none⟩) l2).trans c4, (kN.cell (p := ⟨w.heap.size + 1, 2, none⟩) l2).trans c5, (kN.cell (p := ⟨w.heap.size + 1 + 1, 0, none⟩) l3).trans c6, (kN.cell (p := ⟨w.heap.size + 1 + 1, 1, none⟩) l3).trans c7, (kN.cell (p := ⟨w.heap.size + 1 + 1, 2, none⟩) l3).trans c8, (kN.cell (p := ⟨w.heap.size + 1 + 1, 3, none⟩) l3).trans c9, (kN.cell (p := ⟨w.heap.size + 1 + 1, 4, none⟩) l3).trans c10, (kN.cell (p := ⟨w.heap.size + 1 + 1, 5, none⟩) l3).trans c11, (kN.cell (p := ⟨w.heap.size + 1 + 1, 6, none⟩) l3).trans c12, (kN.cell (p := ⟨w.heap.size + 1 + 1, 7, none⟩) l3).trans c13, (kN.cell (p := ⟨w.heap.size + 1 + 1, 8, none⟩) l3).trans c14, (kN.cell (p := ⟨w.heap.size + 1 + 1, 9, none⟩) l3).trans c15, (kN.cell (p := ⟨w.heap.size + 1 + 1, 10, none⟩) l3).trans c16, (kN.cell (p := ⟨w.heap.size + 1 + 1, 11, none⟩) l3).trans c17⟩
  refine hK _ _ (.inr hS4) ?_
  clear hK K
  (try simp only [Act.put, List.setIfInBounds_toArray, List.set_cons_zero, List.set_cons_succ])
  refine wpAnyT_one (i := 7) (by kernel_rfl) rfl (by rfl) fun K hK => ?_
  go_simp
  refine hK _ _ (.inr hS4) ?_
  clear hK K
  (try simp only [Act.put, List.setIfInBounds_toArray, List.set_cons_zero, List.set_cons_succ])
  refine wpAnyT_done (by kernel_rfl) ?_ _
  have hN := heap_alloc_new w3 (ddO mb d h et0)
  have s3 := k3.size
  have hD : DeedX (w3.alloc (ddO mb d h et0)) w.heap.size mb w3.heap.size a b c d ⟨M, h, et0⟩ := ⟨s3, hN, hO.below kN⟩
  have k4 := k3.trans (kN.mono s3)
  clear hS hS3 hS4 hP hX hH p0 p1 p2 x0 x1 x2 h0 h1 h2 h3 h4 h5 h6 h7 h8 h9 h10 h11 q0 q1 q2 hb hb3 kd
  go_wp2
  go_ret
  exact ⟨_, _, rfl, hD, k4⟩

end Go.Proofs.YtflekodaiejflaaGreat
