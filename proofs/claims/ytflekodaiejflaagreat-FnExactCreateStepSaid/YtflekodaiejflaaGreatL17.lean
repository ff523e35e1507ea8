/-
  A new timer, in the program (chapter 9).
-/
import Derived.Test.YtflekodaiejflaaGreatL13
namespace Go.Proofs.YtflekodaiejflaaGreat
open Go.RowKit Go.Joins
set_option linter.unusedVariables false
set_option linter.unusedSimpArgs false

set_option maxRecDepth 100000 in
set_option maxHeartbeats 4000000 in
theorem allocD_no {w : World} {B mb db : Nat} {a b c d : Int} {D : Dn} (hB : B ≤ w.heap.size) (hc : ¬ D.h.call.code = 1) (h : DeedX w B mb db a b c d D) :
    Calls Tryz.prog 48 #[ptrV db] w (GaveUp B w) := by
  obtain ⟨d0, d1, d2, d3, d4, d5, d6, _, _, hf⟩ := h.cells
  have hc1 : (D.h.call.code != 1) = true := by simpa using hc
  have kC := (Below.refl w.heap.size w).alloc (Nat.le_refl _) (.cells #[.int .i64 D.h.call.code, .int .i64 D.h.call.a, .int .i64 D.h.call.b, .int .i64 D.h.call.c] 37)
  clear h
  go_enter Tryz.func48, Tryz.ntmps48
  go_wp2_with (go_at_call 54; refine (giveUp_any _).mono ?_; rintro e w1 ⟨⟨u, pv, rfl⟩, rfl⟩)
  exact ⟨rfl, ⟨_, _, rfl⟩, kC.mono hB⟩

set_option maxRecDepth 100000 in
set_option maxHeartbeats 4000000 in
theorem allocD_full {w : World} {B mb db : Nat} {a b c d : Int} {D : Dn} (hB : B ≤ w.heap.size) (hn : D.m.tn ≤ 1048576) (hc : D.h.call.code = 1) (ht : c ≤ (D.m.tn : Int)) (h : DeedX w B mb db a b c d D) :
    Calls Tryz.prog 48 #[ptrV db] w fun e w' => e = .returned (.tuple #[]) ∧ InD B mb db a b c d ⟨D.m, restHd 4 0, D.v⟩ w w' := by
  obtain ⟨d0, d1, d2, d3, d4, d5, d6, _, _, hf⟩ := h.cells
  rw [hc] at d3
  have ht1 : decide (c ≤ (D.m.tn : Int)) = true := by simpa using ht
  have kC := (Below.refl w.heap.size w).alloc (Nat.le_refl _) (.cells #[.int .i64 1, .int .i64 D.h.call.a, .int .i64 D.h.call.b, .int .i64 D.h.call.c] 37)
  have hC := heap_alloc_new w (.cells #[.int .i64 1, .int .i64 D.h.call.a, .int .i64 D.h.call.b, .int .i64 D.h.call.c] 37)
  go_enter Tryz.func48, Tryz.ntmps48
  go_upto_region 1 with fail
  replace h := h.below kC
  have k1 : Wd B w _ := .of_new kC hB
  generalize w.alloc (.cells #[.int .i64 1, .int .i64 D.h.call.a, .int .i64 D.h.call.b, .int .i64 D.h.call.c] 37) = w1 at h k1 hC ⊢
  clear d0 d1 d2 d3 d4 d5 d6 hf kC
  obtain ⟨d0, d1, d2, d3, d4, d5, d6, _, _, hf⟩ := h.cells
  have c0 := cell_of_block hC 0
  simp at c0
  obtain ⟨tv, g, V, ho⟩ := h.o.opened
  obtain ⟨ta, tc, htv⟩ := ho.t.row.form
  subst htv
  obtain ⟨m0, m1, m2, m3, m4, m5⟩ := six ho.m
  have hB1 : B ≤ w1.heap.size := Nat.le_trans hB k1.below.size
  have H := Lib.hid (reply_any 4 0 hB1 h)
  clear h ho
  go_wp2_with (go_at_call 76; refine H.out.mono ?_; rintro e w2 ⟨rfl, hi, ki⟩)
  first | go_end0 | refine bodyPost_ret (results_none rfl _ _ _) rfl ?_
  exact ⟨rfl, hi, k1.trans ki⟩

set_option maxRecDepth 100000 in
set_option maxHeartbeats 8000000 in
theorem allocD_new {w : World} {B mb db : Nat} {a b c d : Int} {D : Dn} (hB : B ≤ w.heap.size) (hn : D.m.tn < 1048576) (hc : D.h.call.code = 1) (ht : ¬ c ≤ (D.m.tn : Int)) (h : DeedX w B mb db a b c d D) :
    Calls Tryz.prog 48 #[ptrV db] w fun e w' => e = .returned (.tuple #[]) ∧ InD B mb db a b c d ⟨addTm D.m (newTm D), { D.h with tim := (D.m.tn : Int), pos := 2 }, D.v⟩ w w' := by
  obtain ⟨d0, d1, d2, d3, d4, d5, d6, _, _, hf⟩ := h.cells
  rw [hc] at d3
  have ht1 : decide (c ≤ (D.m.tn : Int)) = false := by simpa using ht
  clear ht
  have kC := (Below.refl w.heap.size w).alloc (Nat.le_refl _) (.cells #[.int .i64 1, .int .i64 D.h.call.a, .int .i64 D.h.call.b, .int .i64 D.h.call.c] 37)
  have hC := heap_alloc_new w (.cells #[.int .i64 1, .int .i64 D.h.call.a, .int .i64 D.h.call.b, .int .i64 D.h.call.c] 37)
  go_enter Tryz.func48, Tryz.ntmps48
  go_upto_region 1 with fail
  replace h := h.below kC
  have k1 : Wd B w _ := .of_new kC hB
  have lC := lt_of_block hC
  generalize w.alloc (.cells #[.int .i64 1, .int .i64 D.h.call.a, .int .i64 D.h.call.b, .int .i64 D.h.call.c] 37) = w1 at h k1 hC lC ⊢
  clear d0 d1 d2 d3 d4 d5 d6 hf kC
  obtain ⟨d0, _⟩ := h.cells
  have c0 := cell_of_block hC 0
  have c1 := cell_of_block hC 1
  have c2 := cell_of_block hC 2
  have c3 := cell_of_block hC 3
  simp at c0 c1 c2 c3
  obtain ⟨tv, g, V, ho⟩ := h.o.opened
  obtain ⟨ta, tc, htv⟩ := ho.t.row.form
  subst htv
  obtain ⟨m0, m1, m2, m3, m4, m5⟩ := six ho.m
  have hB1 : B ≤ w1.heap.size := Nat.le_trans hB k1.below.size
  have ld := h.lt
  have lm := lt_of_block ho.m
  generalize w.heap.size = C at hC lC c0 c1 c2 c3 ⊢
  go_upto_region 6 with fail
  clear m0 m1 m2 m4 m5 c0
  have kk := (Below.refl w1.heap.size w1).drew
  have kZ := ((Below.refl w1.heap.size w1).alloc (Nat.le_refl _) (.cells #[.int .i64 0, .int .i64 0, .int .i64 0, .int .i64 0, .int .i64 0, .int .i64 0, .int .i64 0, .int .i64 0] 90)).drew
  have kN := ((Below.refl w1.heap.size w1).alloc (Nat.le_refl _) (tmNew D.m.c D.h.call.b D.h.call.c D.h.call.a)).drew
  have hT : (w1.alloc (tmNew D.m.c D.h.call.b D.h.call.c D.h.call.a)).drew.heap[w1.heap.size]? = some (tmNew D.m.c D.h.call.b D.h.call.c D.h.call.a) := heap_alloc_new w1 (tmNew D.m.c D.h.call.b D.h.call.c D.h.call.a)
  have y0 := Lib.hid d0
  have y1 := Lib.hid m3
  have y2 := Lib.hid c1
  have y3 := Lib.hid c2
  have y4 := Lib.hid c3
  have H := Lib.hid (h.below kN)
  have HO := Lib.hid (ho.below kN)
  have HC := Lib.hid hc
  clear d0 m3 c1 c2 c3 h ho hC hc
  go_cut [4] (fun v4 wx => v4 = .pointer (some ⟨w1.heap.size, 0, none⟩) ∧ wx = (w1.alloc (tmNew D.m.c D.h.call.b D.h.call.c D.h.call.a)).drew)
  case first =>
    as_aux_lemma =>
    go_region_held3 (fun w' => w'.cell? ⟨db, 0, none⟩ = some (ptrV mb) ∧ w'.cell? ⟨mb, 3, none⟩ = some (.int .i64 D.m.c) ∧ w'.cell? ⟨C, 1, none⟩ = some (.int .i64 D.h.call.a) ∧ w'.cell? ⟨C, 2, none⟩ = some (.int .i64 D.h.call.b) ∧ w'.cell? ⟨C, 3, none⟩ = some (.int .i64 D.h.call.c))
      (first | with_reducible exact ⟨(kk.cell (p := ⟨db, 0, none⟩) ld).trans y0.out, (kk.cell (p := ⟨mb, 3, none⟩) lm).trans y1.out, (kk.cell (p := ⟨C, 1, none⟩) lC).trans y2.out, (kk.cell (p := ⟨C, 2, none⟩) lC).trans y3.out, (kk.cell (p := ⟨C, 3, none⟩) lC).trans y4.out⟩ | with_reducible exact ⟨(kZ.cell (p := ⟨db, 0, none⟩) ld).trans y0.out, (kZ.cell (p := ⟨mb, 3, none⟩) lm).trans y1.out, (kZ.cell (p := ⟨C, 1, none⟩) lC).trans y2.out, (kZ.cell (p := ⟨C, 2, none⟩) lC).trans y3.out, (kZ.cell (p := ⟨C, 3, none⟩) lC).trans y4.out⟩ | with_reducible exact ⟨(kN.cell (p := ⟨db, 0, none⟩) ld).trans y0.out, (kN.cell (p := ⟨mb, 3, none⟩) lm).trans y1.out, (kN.cell (p := ⟨C, 1, none⟩) lC).trans y2.out, (kN.cell (p := ⟨C, 2, none⟩) lC).trans y3.out, (kN.cell (p := ⟨C, 3, none⟩) lC).trans y4.out⟩)
      (first | (go_at_call 77; refine (after_any _ _ _).mono ?_; rintro e w2 ⟨rfl, hw2⟩; subst hw2))
    all_goals
      go_wp2_with fail
      go_meet
      exact ⟨rfl, rfl⟩
  case rest =>
    obtain ⟨rfl, rfl⟩ := hcut
    have h2 := H.out
    have ho2 := HO.out
    have k2 := k1.new kN hB
    have hB2 : B ≤ (w1.alloc (tmNew D.m.c D.h.call.b D.h.call.c D.h.call.a)).drew.heap.size := Nat.le_trans hB k2.below.size
    clear kN kZ kk k1 y0 y1 y2 y3 y4 H HO
    generalize (w1.alloc (tmNew D.m.c D.h.call.b D.h.call.c D.h.call.a)).drew = w2 at h2 ho2 k2 hB2 hT ⊢
    obtain ⟨d0, _⟩ := h2.cells
    obtain ⟨m0, m1, m2, m3, m4, m5⟩ := six ho2.m
    clear m0 m1 m2 m3 m5
    have lm2 := lt_of_block ho2.m
    have ld2 := h2.lt
    have q0 := (World.cell?_alloc_lt w2 (tmNew D.m.c D.h.call.b D.h.call.c D.h.call.a) ⟨mb, 4, none⟩ lm2).trans m4
    have q1 := (World.cell?_alloc_lt w2 (tmNew D.m.c D.h.call.b D.h.call.c D.h.call.a) ⟨db, 0, none⟩ ld2).trans d0
    have t0 := cell_of_block hT 0; have t1 := cell_of_block hT 1; have t2 := cell_of_block hT 2; have t3 := cell_of_block hT 3; have t4 := cell_of_block hT 4; have t5 := cell_of_block hT 5; have t6 := cell_of_block hT 6; have t7 := cell_of_block hT 7
    simp at t0 t1 t2 t3 t4 t5 t6 t7
    have kB := (Below.refl w2.heap.size w2).drew.alloc (Below.refl w2.heap.size w2).drew.size (tmNew D.m.c D.h.call.b D.h.call.c D.h.call.a)
    have hA := h2.below kB
    have oA := ho2.below kB
    have kA := k2.new kB hB
    have hBA : B ≤ (w2.drew.alloc (tmNew D.m.c D.h.call.b D.h.call.c D.h.call.a)).heap.size := Nat.le_trans hB kA.below.size
    have hNew : (w2.drew.alloc (tmNew D.m.c D.h.call.b D.h.call.c D.h.call.a)).heap[w2.heap.size]? = some (tmNew D.m.c D.h.call.b D.h.call.c D.h.call.a) := heap_alloc_new w2.drew _
    have hRow := Lib.hid (show RowTAt (w2.drew.alloc (tmNew D.m.c D.h.call.b D.h.call.c D.h.call.a)) (.slice (some ⟨w2.heap.size, 0, none⟩) 1 1) 1 (fun _ => newTm D) from .inr ⟨w2.heap.size, 0, 1, rfl, lt_of_block hNew, fun i hi j hj => by
      obtain rfl : i = 0 := by omega
      rw [show (⟨w2.heap.size, 0 + 0 * 8 + j, none⟩ : Addr) = ⟨w2.heap.size, j, none⟩ by rw [show 0 + 0 * 8 + j = j by omega], cell_of_block hNew]
      rcases j with _ | _ | _ | _ | _ | _ | _ | _ | j
      all_goals first | rfl | omega⟩)
    have hOwn := Lib.hid (rowT_of_ownrow oA.t)
    clear hNew kB
    go_upto_region 7 with fail
    refine wp_region_T (fun w' => w'.cell? ⟨db, 0, none⟩ = some (ptrV mb) ∧ w'.cell? ⟨mb, 4, none⟩ = some (.slice ta D.m.tn tc)) 16 (by kernel_rfl) ?_
    have hS : w2.drew.cell? ⟨db, 0, none⟩ = some (ptrV mb) ∧ w2.drew.cell? ⟨mb, 4, none⟩ = some (.slice ta D.m.tn tc) := ⟨d0, m4⟩
    refine wpAnyT_take (i := 0) (v := ?v0_1) rfl (by kernel_rfl) (by kernel_rfl) (by kernel_rfl) (by kernel_rfl) (fun _ _ _ h => h) (Or.inl ⟨by rfl, ?hy0_1⟩) hS ?rest0_1
    case hy0_1 => intro w' hSw; obtain ⟨s0, s1⟩ := hSw; go_simp; try with_reducible rfl
    simp only [Act.put, List.setIfInBounds_toArray, List.set_cons_zero, List.set_cons_succ]
    refine wpAnyT_take (i := 1) (v := ?v1_2) rfl (by kernel_rfl) (by kernel_rfl) (by kernel_rfl) (by kernel_rfl) (fun _ _ _ h => h) (Or.inl ⟨by rfl, ?hy1_2⟩) hS ?rest1_2
    case hy1_2 => intro w' hSw; obtain ⟨s0, s1⟩ := hSw; go_simp; try with_reducible rfl
    simp only [Act.put, List.setIfInBounds_toArray, List.set_cons_zero, List.set_cons_succ]
    refine wpAnyT_take (i := 2) (v := ?v2_3) rfl (by kernel_rfl) (by kernel_rfl) (by kernel_rfl) (by kernel_rfl) (fun _ _ _ h => h) (Or.inl ⟨by rfl, ?hy2_3⟩) hS ?rest2_3
    case hy2_3 => intro w' hSw; obtain ⟨s0, s1⟩ := hSw; go_simp; try with_reducible rfl
    simp only [Act.put, List.setIfInBounds_toArray, List.set_cons_zero, List.set_cons_succ]
    refine wpAnyT_take (i := 3) (v := ?v3_4) rfl (by kernel_rfl) (by kernel_rfl) (by kernel_rfl) (by kernel_rfl) (fun _ _ _ h => h) (Or.inl ⟨by rfl, ?hy3_4⟩) hS ?rest3_4
    case hy3_4 => intro w' hSw; obtain ⟨s0, s1⟩ := hSw; go_simp; try with_reducible rfl
    simp only [Act.put, List.setIfInBounds_toArray, List.set_cons_zero, List.set_cons_succ]
    refine wpAnyT_take (i := 4) (v := ?v4_5) rfl (by kernel_rfl) (by kernel_rfl) (by kernel_rfl) (by kernel_rfl) (fun _ _ _ h => h) (Or.inl ⟨by rfl, ?hy4_5⟩) hS ?rest4_5
    case hy4_5 => intro w' hSw; obtain ⟨s0, s1⟩ := hSw; go_simp; try with_reducible rfl
    simp only [Act.put, List.setIfInBounds_toArray, List.set_cons_zero, List.set_cons_succ]
    refine wpAnyT_take (i := 5) (v := ?v5_6) rfl (by kernel_rfl) (by kernel_rfl) (by kernel_rfl) (by kernel_rfl) (fun _ _ _ h => h) (Or.inl ⟨by rfl, ?hy5_6⟩) hS ?rest5_6
    case hy5_6 => intro w' hSw; obtain ⟨s0, s1⟩ := hSw; go_simp; try with_reducible rfl
    simp only [Act.put, List.setIfInBounds_toArray, List.set_cons_zero, List.set_cons_succ]
    refine wpAnyT_take (i := 6) (v := ?v6_7) rfl (by kernel_rfl) (by kernel_rfl) (by kernel_rfl) (by kernel_rfl) (fun _ _ _ h => h) (Or.inl ⟨by rfl, ?hy6_7⟩) hS ?rest6_7
    case hy6_7 => intro w' hSw; obtain ⟨s0, s1⟩ := hSw; go_simp; try with_reducible rfl
    simp only [Act.put, List.setIfInBounds_toArray, List.set_cons_zero, List.set_cons_succ]
    refine wpAnyT_take (i := 7) (v := ?v7_8) rfl (by kernel_rfl) (by kernel_rfl) (by kernel_rfl) (by kernel_rfl) (fun _ _ _ h => h) (Or.inl ⟨by rfl, ?hy7_8⟩) hS ?rest7_8
    case hy7_8 => intro w' hSw; obtain ⟨s0, s1⟩ := hSw; go_simp; try with_reducible rfl
    simp only [Act.put, List.setIfInBounds_toArray, List.set_cons_zero, List.set_cons_succ]
    refine wpAnyT_take (i := 8) (v := ?v8_9) rfl (by kernel_rfl) (by kernel_rfl) (by kernel_rfl) (by kernel_rfl) (fun _ _ _ h => h) (Or.inl ⟨by rfl, ?hy8_9⟩) hS ?rest8_9
    case hy8_9 => intro w' hSw; obtain ⟨s0, s1⟩ := hSw; go_simp; try with_reducible rfl
    simp only [Act.put, List.setIfInBounds_toArray, List.set_cons_zero, List.set_cons_succ]
    refine wpAnyT_take (i := 9) (v := ?v9_10) rfl (by kernel_rfl) (by kernel_rfl) (by kernel_rfl) (by kernel_rfl) (fun _ _ _ h => h) (Or.inl ⟨by rfl, ?hy9_10⟩) hS ?rest9_10
    case hy9_10 => intro w' hSw; obtain ⟨s0, s1⟩ := hSw; go_simp; try with_reducible rfl
    simp only [Act.put, List.setIfInBounds_toArray, List.set_cons_zero, List.set_cons_succ]
    refine wpAnyT_take (i := 10) (v := ?v10_11) rfl (by kernel_rfl) (by kernel_rfl) (by kernel_rfl) (by kernel_rfl) (fun _ _ _ h => h) (Or.inl ⟨by rfl, ?hy10_11⟩) hS ?rest10_11
    case hy10_11 => intro w' hSw; obtain ⟨s0, s1⟩ := hSw; go_simp; try with_reducible rfl
    simp only [Act.put, List.setIfInBounds_toArray, List.set_cons_zero, List.set_cons_succ]
    refine wpAnyT_one (i := 11) (by kernel_rfl) rfl (by rfl) fun K hK => ?_
    go_simp
    refine hK _ _ (.inr hS) ?_
    clear hK K
    (try simp only [Act.put, List.setIfInBounds_toArray, List.set_cons_zero, List.set_cons_succ])
    refine wpAnyT_one (i := 12) (by kernel_rfl) rfl (by rfl) fun K hK => ?_
    go_simp
    have hS2 : (w2.drew.alloc (tmNew D.m.c D.h.call.b D.h.call.c D.h.call.a)).cell? ⟨db, 0, none⟩ = some (ptrV mb) ∧ (w2.drew.alloc (tmNew D.m.c D.h.call.b D.h.call.c D.h.call.a)).cell? ⟨mb, 4, none⟩ = some (.slice ta D.m.tn tc) := ⟨cell_of_block hA.e 0, cell_of_block oA.m 4⟩
    refine hK _ _ (.inr hS2) ?_
    clear hK K
    (try simp only [Act.put, List.setIfInBounds_toArray, List.set_cons_zero, List.set_cons_succ])
    refine wpAnyT_one (i := 13) (by kernel_rfl) rfl (by rfl) fun K hK => ?_
    refine wp_append_tms (.tmp 59) (.tmp 61) rfl B _ D.m.tn D.m.t rfl hOwn.out _ 1 (fun _ => newTm D) rfl hRow.out (by omega) hBA ?_
    intro v2 w3 hown2 hg2 hat2
    have h3 := hA.grownT oA hg2 hown2
    have k3 := kA.grownT oA.t hg2 hBA
    have hm3 := (hg2.block mb (lt_of_block oA.m) (fun e => by obtain ⟨_, cs, hcc⟩ := oA.t.blk mb e.symm; exact ne_ty oA.m hcc (by decide) rfl)).trans oA.m
    have hd3 := (hg2.block db hA.lt (fun e => by obtain ⟨_, cs, hcc⟩ := oA.t.blk db e.symm; exact ne_ty hA.e hcc (by decide) rfl)).trans hA.e
    have hS3 : w3.cell? ⟨db, 0, none⟩ = some (ptrV mb) ∧ w3.cell? ⟨mb, 4, none⟩ = some (.slice ta D.m.tn tc) := ⟨cell_of_block hd3 0, cell_of_block hm3 4⟩
    have q4 : w3.cell? ⟨mb, 4, none⟩ = some _ := cell_of_block hm3 4
    have qf := unfrozen_of_block hm3 4
    have k4 := k3.set hm3 oA.m0 (by decide) 4 v2
    rw [cellsT_push] at hown2
    have hT2 := ownT_of_row hown2
    obtain ⟨a2, c2, hv2⟩ := hT2.row.form
    subst hv2
    clear hown2 hg2 hat2 hd3 hm3 k3 hT2
    refine hK _ _ (.inr hS3) ?_
    clear hK K
    (try simp only [Act.put, List.setIfInBounds_toArray, List.set_cons_zero, List.set_cons_succ])
    refine wpAnyT_one (i := 14) (by kernel_rfl) rfl (by rfl) fun K hK => ?_
    go_simp
    refine hK _ _ (.inr hS3) ?_
    clear hK K
    (try simp only [Act.put, List.setIfInBounds_toArray, List.set_cons_zero, List.set_cons_succ])
    refine wpAnyT_one (i := 15) (by kernel_rfl) rfl (by rfl) fun K hK => ?_
    go_simp
    refine hK _ _ (.inr hS3) ?_
    clear hK K
    (try simp only [Act.put, List.setIfInBounds_toArray, List.set_cons_zero, List.set_cons_succ])
    refine wpAnyT_one (i := 16) (by kernel_rfl) rfl (by rfl) fun K hK => ?_
    go_simp
    refine hK _ _ (.inl rfl) ?_
    clear hK K
    (try simp only [Act.put, List.setIfInBounds_toArray, List.set_cons_zero, List.set_cons_succ])
    refine wpAnyT_done (by kernel_rfl) ?_ _
    have hj := World.cell?_setCell_other w3 ⟨mb, 4, none⟩ ⟨db, 0, none⟩ (.slice a2 (D.m.tn + 1) c2) (by intro e; injection e with e1 e2 e3; exact absurd e2 (by decide))
    clear q4 qf hS hS2 hS3 hRow hOwn hA oA kA hBA q0 q1 t0 t1 t2 t3 t4 t5 t6 t7 hT d0 m4 hB2 k2 hj ho2 h2 lm2 ld2
    generalize w3.setCell ⟨mb, 4, none⟩ (.slice a2 (D.m.tn + 1) c2) = w4 at h3 k4 ⊢
    have hf := fun o => unfrozen_of_block h3.e o
    have c7 : w4.cell? ⟨db, 7, none⟩ = some _ := cell_of_block h3.e 7
    have c2 : w4.cell? ⟨db, 2, none⟩ = some _ := cell_of_block h3.e 2
    have h5 := (h3.setTim (D.m.tn : Int)).setPos 2
    have k5 := (k4.setD h3 7 (.int .i64 (D.m.tn : Int))).setD (h3.setTim (D.m.tn : Int)) 2 (.int .i64 2)
    clear h3 k4
    go_wp2
    first | go_end0 | refine bodyPost_ret (results_none rfl _ _ _) rfl ?_
    exact ⟨rfl, h5, k5⟩

/-- a new timer, whole -/
theorem allocD_any {w : World} {B mb db : Nat} {a b c d : Int} {D : Dn} (hB : B ≤ w.heap.size) (hn : D.m.tn < 1048576) (hc : D.h.call.code = 1) (h : DeedX w B mb db a b c d D) :
    Calls Tryz.prog 48 #[ptrV db] w fun e w' => e = .returned (.tuple #[]) ∧ InD B mb db a b c d (allocD c D) w w' := by
  by_cases ht : c ≤ (D.m.tn : Int)
  · rw [show allocD c D = ⟨D.m, restHd 4 0, D.v⟩ from if_pos ht]
    exact allocD_full hB (by omega) hc ht h
  · rw [show allocD c D = ⟨addTm D.m (newTm D), { D.h with tim := (D.m.tn : Int), pos := 2 }, D.v⟩ from if_neg ht]
    exact allocD_new hB hn hc ht h

end Go.Proofs.YtflekodaiejflaaGreat
