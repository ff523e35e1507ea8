/-
  A step while it is made, in the program (chapter 9): shown.
-/
import Derived.Test.YtflekodaiejflaaGreatDoorL14
import Derived.Test.YtflekodaiejflaaGreatDoorL12
import Derived.Test.YtflekodaiejflaaGreatDoorL11
import Derived.Test.YtflekodaiejflaaGreatDoorL13
import Derived.Deep.QuietTactic
import Derived.BigQuiet
import Derived.Deep.DeepCutAuto
import Derived.Test.YtflekodaiejflaaGreatDoorL06
import Derived.Test.YtflekodaiejflaaGreatDoorL03
namespace Go.Proofs.YtflekodaiejflaaGreatDoor
open Go.Deep Go.RowKit Go.Joins
set_option linter.unusedVariables false
set_option linter.unusedSimpArgs false

set_option maxRecDepth 100000 in
set_option maxHeartbeats 16000000 in
theorem done_any {w : World} {B mb db : Nat} {a b c d : Int} {D : Dn} (hs : sizeM D.m ≤ 1048576) (hB : B ≤ w.heap.size) (h : DeedX w B mb db a b c d D) :
    Calls Tryz.prog 47 #[ptrV db] w fun e w' => ∃ tv pv, e = .returned (dnV D tv pv) ∧ OwnMem w' B tv pv D.m ∧ Below w.heap.size w w' := by
  have k0 := (Below.refl w.heap.size w).alloc (Nat.le_refl _) (.cells #[.int .i64 0, .slice none 0 0, .slice none 0 0, .int .i64 0, .int .i64 0, .int .i64 0, .int .i64 0, .int .i64 0, .int .i64 0, .int .i64 0, .bool false, .int .i64 0, .int .i64 0, .int .i64 0, .int .i64 0, .int .i64 0, .int .i64 0, .int .i64 0, .int .i64 0, .int .i64 0] 43)
  have hR := heap_alloc_new w (.cells #[.int .i64 0, .slice none 0 0, .slice none 0 0, .int .i64 0, .int .i64 0, .int .i64 0, .int .i64 0, .int .i64 0, .int .i64 0, .int .i64 0, .bool false, .int .i64 0, .int .i64 0, .int .i64 0, .int .i64 0, .int .i64 0, .int .i64 0, .int .i64 0, .int .i64 0, .int .i64 0] 43)
  go_enter Tryz.func47, Tryz.ntmps47
  go_upto_region 1 with fail
  replace h := h.below k0
  have e0 : (w.alloc (.cells #[.int .i64 0, .slice none 0 0, .slice none 0 0, .int .i64 0, .int .i64 0, .int .i64 0, .int .i64 0, .int .i64 0, .int .i64 0, .int .i64 0, .bool false, .int .i64 0, .int .i64 0, .int .i64 0, .int .i64 0, .int .i64 0, .int .i64 0, .int .i64 0, .int .i64 0, .int .i64 0] 43)).heap.size = w.heap.size + 1 := by simp
  generalize w.alloc (.cells #[.int .i64 0, .slice none 0 0, .slice none 0 0, .int .i64 0, .int .i64 0, .int .i64 0, .int .i64 0, .int .i64 0, .int .i64 0, .int .i64 0, .bool false, .int .i64 0, .int .i64 0, .int .i64 0, .int .i64 0, .int .i64 0, .int .i64 0, .int .i64 0, .int .i64 0, .int .i64 0] 43) = w1 at h k0 hR e0 ⊢
  generalize hRb : w.heap.size = R at hR k0 e0 hB ⊢
  have kd := (Below.refl w1.heap.size w1).drew
  refine wp_region_T (fun w' => w'.cell? ⟨db, 0, none⟩ = some (ptrV mb) ∧ w'.cell? ⟨db, 2, none⟩ = some (.int .i64 D.h.pos) ∧ w'.cell? ⟨db, 3, none⟩ = some (.int .i64 D.h.call.code) ∧ w'.cell? ⟨db, 4, none⟩ = some (.int .i64 D.h.call.a) ∧ w'.cell? ⟨db, 5, none⟩ = some (.int .i64 D.h.call.b) ∧ w'.cell? ⟨db, 6, none⟩ = some (.int .i64 D.h.call.c) ∧ w'.cell? ⟨db, 7, none⟩ = some (.int .i64 D.h.tim) ∧ w'.cell? ⟨db, 8, none⟩ = some (.int .i64 D.h.whe) ∧ w'.cell? ⟨db, 9, none⟩ = some (.bool D.h.had) ∧ w'.cell? ⟨db, 10, none⟩ = some (.int .i64 D.h.cnt) ∧ w'.cell? ⟨db, 11, none⟩ = some (.int .i64 D.h.beg) ∧ w'.cell? ⟨db, 12, none⟩ = some (.int .i64 D.h.rep) ∧ w'.cell? ⟨db, 13, none⟩ = some (.int .i64 D.h.out) ∧ w'.cell? ⟨db, 14, none⟩ = some (.int .i64 D.v.kin) ∧ w'.cell? ⟨db, 15, none⟩ = some (.int .i64 D.v.tim) ∧ w'.cell? ⟨db, 16, none⟩ = some (.int .i64 D.v.gen) ∧ w'.cell? ⟨db, 17, none⟩ = some (.int .i64 D.v.whe) ∧ w'.cell? ⟨db, 18, none⟩ = some (.int .i64 D.v.clk)) 14 (by kernel_rfl) ?_
  have hS : w1.drew.cell? ⟨db, 0, none⟩ = some (ptrV mb) ∧ w1.drew.cell? ⟨db, 2, none⟩ = some (.int .i64 D.h.pos) ∧ w1.drew.cell? ⟨db, 3, none⟩ = some (.int .i64 D.h.call.code) ∧ w1.drew.cell? ⟨db, 4, none⟩ = some (.int .i64 D.h.call.a) ∧ w1.drew.cell? ⟨db, 5, none⟩ = some (.int .i64 D.h.call.b) ∧ w1.drew.cell? ⟨db, 6, none⟩ = some (.int .i64 D.h.call.c) ∧ w1.drew.cell? ⟨db, 7, none⟩ = some (.int .i64 D.h.tim) ∧ w1.drew.cell? ⟨db, 8, none⟩ = some (.int .i64 D.h.whe) ∧ w1.drew.cell? ⟨db, 9, none⟩ = some (.bool D.h.had) ∧ w1.drew.cell? ⟨db, 10, none⟩ = some (.int .i64 D.h.cnt) ∧ w1.drew.cell? ⟨db, 11, none⟩ = some (.int .i64 D.h.beg) ∧ w1.drew.cell? ⟨db, 12, none⟩ = some (.int .i64 D.h.rep) ∧ w1.drew.cell? ⟨db, 13, none⟩ = some (.int .i64 D.h.out) ∧ w1.drew.cell? ⟨db, 14, none⟩ = some (.int .i64 D.v.kin) ∧ w1.drew.cell? ⟨db, 15, none⟩ = some (.int .i64 D.v.tim) ∧ w1.drew.cell? ⟨db, 16, none⟩ = some (.int .i64 D.v.gen) ∧ w1.drew.cell? ⟨db, 17, none⟩ = some (.int .i64 D.v.whe) ∧ w1.drew.cell? ⟨db, 18, none⟩ = some (.int .i64 D.v.clk) := ⟨cell_of_block h.e 0, cell_of_block h.e 2, cell_of_block h.e 3, cell_of_block h.e 4, cell_of_block h.e 5, cell_of_block h.e 6, cell_of_block h.e 7, cell_of_block h.e 8, cell_of_block h.e 9, cell_of_block h.e 10, cell_of_block h.e 11, cell_of_block h.e 12, cell_of_block h.e 13, cell_of_block h.e 14, cell_of_block h.e 15, cell_of_block h.e 16, cell_of_block h.e 17, cell_of_block h.e 18⟩
  refine wpAnyT_take (i := 0) (v := ?v0_1) rfl (by kernel_rfl) (by kernel_rfl) (by kernel_rfl) (by kernel_rfl) (fun _ _ _ h => h) (Or.inl ⟨by rfl, ?hy0_1⟩) hS ?rest0_1
  case hy0_1 => intro w' hSw; obtain ⟨s0, s1, s2, s3, s4, s5, s6, s7, s8, s9, s10, s11, s12, s13, s14, s15, s16, s17⟩ := hSw; go_simp; try with_reducible rfl
  simp only [Act.put, List.setIfInBounds_toArray, List.set_cons_zero, List.set_cons_succ]
  refine wpAnyT_take (i := 1) (v := ?v1_2) rfl (by kernel_rfl) (by kernel_rfl) (by kernel_rfl) (by kernel_rfl) (fun _ _ _ h => h) (Or.inl ⟨by rfl, ?hy1_2⟩) hS ?rest1_2
  case hy1_2 => intro w' hSw; obtain ⟨s0, s1, s2, s3, s4, s5, s6, s7, s8, s9, s10, s11, s12, s13, s14, s15, s16, s17⟩ := hSw; go_simp; try with_reducible rfl
  simp only [Act.put, List.setIfInBounds_toArray, List.set_cons_zero, List.set_cons_succ]
  refine wpAnyT_take (i := 2) (v := ?v2_3) rfl (by kernel_rfl) (by kernel_rfl) (by kernel_rfl) (by kernel_rfl) (fun _ _ _ h => h) (Or.inl ⟨by rfl, ?hy2_3⟩) hS ?rest2_3
  case hy2_3 => intro w' hSw; obtain ⟨s0, s1, s2, s3, s4, s5, s6, s7, s8, s9, s10, s11, s12, s13, s14, s15, s16, s17⟩ := hSw; go_simp; try with_reducible rfl
  simp only [Act.put, List.setIfInBounds_toArray, List.set_cons_zero, List.set_cons_succ]
  refine wpAnyT_take (i := 3) (v := ?v3_4) rfl (by kernel_rfl) (by kernel_rfl) (by kernel_rfl) (by kernel_rfl) (fun _ _ _ h => h) (Or.inl ⟨by rfl, ?hy3_4⟩) hS ?rest3_4
  case hy3_4 => intro w' hSw; obtain ⟨s0, s1, s2, s3, s4, s5, s6, s7, s8, s9, s10, s11, s12, s13, s14, s15, s16, s17⟩ := hSw; go_simp; try with_reducible rfl
  simp only [Act.put, List.setIfInBounds_toArray, List.set_cons_zero, List.set_cons_succ]
  refine wpAnyT_take (i := 5) (v := ?v5_5) rfl (by kernel_rfl) (by kernel_rfl) (by kernel_rfl) (by kernel_rfl) (fun _ _ _ h => h) (Or.inl ⟨by rfl, ?hy5_5⟩) hS ?rest5_5
  case hy5_5 => intro w' hSw; obtain ⟨s0, s1, s2, s3, s4, s5, s6, s7, s8, s9, s10, s11, s12, s13, s14, s15, s16, s17⟩ := hSw; go_simp; try with_reducible rfl
  simp only [Act.put, List.setIfInBounds_toArray, List.set_cons_zero, List.set_cons_succ]
  refine wpAnyT_take (i := 6) (v := ?v6_6) rfl (by kernel_rfl) (by kernel_rfl) (by kernel_rfl) (by kernel_rfl) (fun _ _ _ h => h) (Or.inl ⟨by rfl, ?hy6_6⟩) hS ?rest6_6
  case hy6_6 => intro w' hSw; obtain ⟨s0, s1, s2, s3, s4, s5, s6, s7, s8, s9, s10, s11, s12, s13, s14, s15, s16, s17⟩ := hSw; go_simp; try with_reducible rfl
  simp only [Act.put, List.setIfInBounds_toArray, List.set_cons_zero, List.set_cons_succ]
  refine wpAnyT_take (i := 7) (v := ?v7_7) rfl (by kernel_rfl) (by kernel_rfl) (by kernel_rfl) (by kernel_rfl) (fun _ _ _ h => h) (Or.inl ⟨by rfl, ?hy7_7⟩) hS ?rest7_7
  case hy7_7 => intro w' hSw; obtain ⟨s0, s1, s2, s3, s4, s5, s6, s7, s8, s9, s10, s11, s12, s13, s14, s15, s16, s17⟩ := hSw; go_simp; try with_reducible rfl
  simp only [Act.put, List.setIfInBounds_toArray, List.set_cons_zero, List.set_cons_succ]
  refine wpAnyT_take (i := 8) (v := ?v8_8) rfl (by kernel_rfl) (by kernel_rfl) (by kernel_rfl) (by kernel_rfl) (fun _ _ _ h => h) (Or.inl ⟨by rfl, ?hy8_8⟩) hS ?rest8_8
  case hy8_8 => intro w' hSw; obtain ⟨s0, s1, s2, s3, s4, s5, s6, s7, s8, s9, s10, s11, s12, s13, s14, s15, s16, s17⟩ := hSw; go_simp; try with_reducible rfl
  simp only [Act.put, List.setIfInBounds_toArray, List.set_cons_zero, List.set_cons_succ]
  refine wpAnyT_take (i := 9) (v := ?v9_9) rfl (by kernel_rfl) (by kernel_rfl) (by kernel_rfl) (by kernel_rfl) (fun _ _ _ h => h) (Or.inl ⟨by rfl, ?hy9_9⟩) hS ?rest9_9
  case hy9_9 => intro w' hSw; obtain ⟨s0, s1, s2, s3, s4, s5, s6, s7, s8, s9, s10, s11, s12, s13, s14, s15, s16, s17⟩ := hSw; go_simp; try with_reducible rfl
  simp only [Act.put, List.setIfInBounds_toArray, List.set_cons_zero, List.set_cons_succ]
  refine wpAnyT_take (i := 10) (v := ?v10_10) rfl (by kernel_rfl) (by kernel_rfl) (by kernel_rfl) (by kernel_rfl) (fun _ _ _ h => h) (Or.inl ⟨by rfl, ?hy10_10⟩) hS ?rest10_10
  case hy10_10 => intro w' hSw; obtain ⟨s0, s1, s2, s3, s4, s5, s6, s7, s8, s9, s10, s11, s12, s13, s14, s15, s16, s17⟩ := hSw; go_simp; try with_reducible rfl
  simp only [Act.put, List.setIfInBounds_toArray, List.set_cons_zero, List.set_cons_succ]
  refine wpAnyT_take (i := 11) (v := ?v11_11) rfl (by kernel_rfl) (by kernel_rfl) (by kernel_rfl) (by kernel_rfl) (fun _ _ _ h => h) (Or.inl ⟨by rfl, ?hy11_11⟩) hS ?rest11_11
  case hy11_11 => intro w' hSw; obtain ⟨s0, s1, s2, s3, s4, s5, s6, s7, s8, s9, s10, s11, s12, s13, s14, s15, s16, s17⟩ := hSw; go_simp; try with_reducible rfl
  simp only [Act.put, List.setIfInBounds_toArray, List.set_cons_zero, List.set_cons_succ]
  refine wpAnyT_take (i := 12) (v := ?v12_12) rfl (by kernel_rfl) (by kernel_rfl) (by kernel_rfl) (by kernel_rfl) (fun _ _ _ h => h) (Or.inl ⟨by rfl, ?hy12_12⟩) hS ?rest12_12
  case hy12_12 => intro w' hSw; obtain ⟨s0, s1, s2, s3, s4, s5, s6, s7, s8, s9, s10, s11, s12, s13, s14, s15, s16, s17⟩ := hSw; go_simp; try with_reducible rfl
  simp only [Act.put, List.setIfInBounds_toArray, List.set_cons_zero, List.set_cons_succ]
  refine wpAnyT_one (i := 4) (by kernel_rfl) rfl (by rfl) fun K hK => ?_
  go_simp
  go_at_call 73; refine (memShown_any hs (show B ≤ w1.drew.heap.size from by show B ≤ w1.heap.size; omega) (h.below kd).o).mono ?_; rintro e w2 ⟨tv, pv, rfl, hO, hb⟩
  replace hb := kd.trans (hb.mono kd.size)
  have h2 := h.below hb
  replace hR := b_block hb hR (lt_of_block hR)
  have k2 := k0.trans (hb.mono (by omega))
  obtain ⟨ta, tc, pa, pc, ht, hp⟩ := hO.at.form
  subst ht hp
  have hS2 : w2.cell? ⟨db, 0, none⟩ = some (ptrV mb) ∧ w2.cell? ⟨db, 2, none⟩ = some (.int .i64 D.h.pos) ∧ w2.cell? ⟨db, 3, none⟩ = some (.int .i64 D.h.call.code) ∧ w2.cell? ⟨db, 4, none⟩ = some (.int .i64 D.h.call.a) ∧ w2.cell? ⟨db, 5, none⟩ = some (.int .i64 D.h.call.b) ∧ w2.cell? ⟨db, 6, none⟩ = some (.int .i64 D.h.call.c) ∧ w2.cell? ⟨db, 7, none⟩ = some (.int .i64 D.h.tim) ∧ w2.cell? ⟨db, 8, none⟩ = some (.int .i64 D.h.whe) ∧ w2.cell? ⟨db, 9, none⟩ = some (.bool D.h.had) ∧ w2.cell? ⟨db, 10, none⟩ = some (.int .i64 D.h.cnt) ∧ w2.cell? ⟨db, 11, none⟩ = some (.int .i64 D.h.beg) ∧ w2.cell? ⟨db, 12, none⟩ = some (.int .i64 D.h.rep) ∧ w2.cell? ⟨db, 13, none⟩ = some (.int .i64 D.h.out) ∧ w2.cell? ⟨db, 14, none⟩ = some (.int .i64 D.v.kin) ∧ w2.cell? ⟨db, 15, none⟩ = some (.int .i64 D.v.tim) ∧ w2.cell? ⟨db, 16, none⟩ = some (.int .i64 D.v.gen) ∧ w2.cell? ⟨db, 17, none⟩ = some (.int .i64 D.v.whe) ∧ w2.cell? ⟨db, 18, none⟩ = some (.int .i64 D.v.clk) := ⟨cell_of_block h2.e 0, cell_of_block h2.e 2, cell_of_block h2.e 3, cell_of_block h2.e 4, cell_of_block h2.e 5, cell_of_block h2.e 6, cell_of_block h2.e 7, cell_of_block h2.e 8, cell_of_block h2.e 9, cell_of_block h2.e 10, cell_of_block h2.e 11, cell_of_block h2.e 12, cell_of_block h2.e 13, cell_of_block h2.e 14, cell_of_block h2.e 15, cell_of_block h2.e 16, cell_of_block h2.e 17, cell_of_block h2.e 18⟩
  refine hK _ _ (.inr hS2) ?_
  clear hK K
  (try simp only [Act.put, List.setIfInBounds_toArray, List.set_cons_zero, List.set_cons_succ])
  refine wpAnyT_take (i := 13) (v := ?v13_13) rfl (by kernel_rfl) (by kernel_rfl) (by kernel_rfl) (by kernel_rfl) (fun _ _ _ h => h) (Or.inl ⟨by rfl, ?hy13_13⟩) hS2 ?rest13_13
  case hy13_13 => intro w' hSw; obtain ⟨s0, s1, s2, s3, s4, s5, s6, s7, s8, s9, s10, s11, s12, s13, s14, s15, s16, s17⟩ := hSw; go_simp; try with_reducible rfl
  simp only [Act.put, List.setIfInBounds_toArray, List.set_cons_zero, List.set_cons_succ]
  obtain ⟨cs, hcs⟩ : ∃ cs : Array Value, dnCells D (.slice ta D.m.tn tc) (.slice pa D.m.pn pc) = cs := ⟨_, rfl⟩
  rw [show Value.agg (dnCells D (.slice ta D.m.tn tc) (.slice pa D.m.pn pc)) = Value.agg cs from congrArg Value.agg hcs]
  have hsz : cs.size = 20 := by { rw [← hcs]; rfl }
  have hone : cs.all (·.oneCell') = true := by { rw [← hcs]; simp [Value.oneCell'] }
  have hst := run_store_letter (P := Tryz.prog) hsz hone w2 R (there_of_cells hR)
  refine wpAnyT_one (i := 14) (by kernel_rfl) rfl (by rfl) fun K hK => ?_
  go_simp
  refine hK _ _ (.inl rfl) ?_
  clear hK K
  (try simp only [Act.put, List.setIfInBounds_toArray, List.set_cons_zero, List.set_cons_succ])
  refine wpAnyT_done (by kernel_rfl) ?_ _
  have hR3 := heap_setCells (cs := cs) hR hsz
  have hO3 := OwnMemIn.own (hO.setCells cs.toList hR)
  have k3 := b_setCells (b := R) (Nat.le_refl _) cs.toList 0 k2
  clear hS hS2 hst k2 hR h h2 hO
  go_wp2
  subst hRb
  exact bodyPost_ret (v := .agg cs) (results_cell (cs := cs.toList) rfl rfl (range_of_block hR3) Tryz.underlying43 rfl (by rw [done_info]; simp [hsz])) rfl ⟨_, _, by rw [← hcs], hO3, k3⟩

end Go.Proofs.YtflekodaiejflaaGreatDoor

/-
  The program's stopping: a timer claimed, the one in the hand, turned (chapter 10).
-/
namespace Go.Proofs.YtflekodaiejflaaGreatDoor
open Go.RowKit Go.Joins
set_option linter.unusedVariables false
set_option linter.unusedSimpArgs false

set_option maxRecDepth 100000 in
set_option maxHeartbeats 4000000 in
theorem tell_at {w : World} {B mb db t : Nat} {a b c d : Int} {D : Dn} (kind when : Int) (ht : t < D.m.tn) (h : DeedX w B mb db a b c d D) :
    Calls Tryz.prog 110 #[ptrV db, .int .i64 kind, .int .i64 (t : Int), .int .i64 when] w fun e w' => e = .returned (.tuple #[]) ∧ ∃ w0, Below w.heap.size w w0 ∧ w' = w0.setCells db 14 [.int .i64 kind, .int .i64 (t : Int), .int .i64 (D.m.t t).ge, .int .i64 when, .int .i64 D.m.c] := by
  obtain ⟨d0, _, _, _, _, _, _, _, _, hf⟩ := h.cells
  obtain ⟨tv, g, V, ho⟩ := h.o.opened
  obtain ⟨tg, tc, rfl⟩ := ho.tms ht
  obtain ⟨m0, m1, m2, m3, m4, m5⟩ := six ho.m
  obtain ⟨⟨_, _, _, _, _, t5, _, _⟩, _⟩ := ho.tcells ht
  have i2 : (0 : Int) ≤ (t : Int) := by omega
  have i3 : (t : Int) < (D.m.tn : Int) := by omega
  have k0 := (Below.refl w.heap.size w).drew
  clear ho hf
  go_enter Tryz.func110, Tryz.ntmps110
  go_still_tail 23, (by kernel_rfl)
  change wpList _ _ _ _ _ w.drew
  replace h := h.below k0
  clear d0 m0 m1 m2 m3 m4 m5 t5
  generalize w.drew = w0 at h k0 ⊢
  have hf := fun o => unfrozen_of_block h.e o
  have c14 : w0.cell? ⟨db, 14, none⟩ = some _ := cell_of_block h.e 14
  have c15 : w0.cell? ⟨db, 15, none⟩ = some _ := cell_of_block h.e 15
  have c16 : w0.cell? ⟨db, 16, none⟩ = some _ := cell_of_block h.e 16
  have c17 : w0.cell? ⟨db, 17, none⟩ = some _ := cell_of_block h.e 17
  have c18 : w0.cell? ⟨db, 18, none⟩ = some _ := cell_of_block h.e 18
  clear h
  go_wp2
  go_end0
  exact ⟨rfl, w0, k0, rfl⟩

/-- a timer is claimed: told, changing, in the hand -/
abbrev takenD (D : Dn) (t : Nat) : Dn := ⟨setTm D.m t 0 2, { D.h with tim := (t : Int) }, evI D.m 2 t (setToT (D.m.t t))⟩
set_option maxRecDepth 100000 in
set_option maxHeartbeats 4000000 in
theorem cancelD_any {w : World} {B mb db t : Nat} {a b c d : Int} {D : Dn} (hB : B ≤ w.heap.size) (ht : t < D.m.tn) (h : DeedX w B mb db a b c d D) :
    Calls Tryz.prog 75 #[ptrV db, .int .i64 (t : Int)] w fun e w' => e = .returned (.tuple #[]) ∧ InD B mb db a b c d (takenD D t) w w' := by
  obtain ⟨d0, _, _, _, _, _, _, _, _, _⟩ := h.cells
  obtain ⟨tv, g, V, ho⟩ := h.o.opened
  obtain ⟨tg, tc, rfl⟩ := ho.tms ht
  obtain ⟨m0, m1, m2, m3, m4, m5⟩ := six ho.m
  obtain ⟨⟨t0, t1, t2, t3, t4, t5, t6, t7⟩, _⟩ := ho.tcells ht
  have i2 : (0 : Int) ≤ (t : Int) := by omega
  have i3 : (t : Int) < (D.m.tn : Int) := by omega
  have HS := Lib.hid (setTo_any (D.m.t t) w)
  go_enter Tryz.func75, Tryz.ntmps75
  go_wp2_with fail
  go_at_call 111; refine HS.out.mono ?_; rintro e w1 ⟨rfl, hb⟩
  have h1 := h.below hb
  have o1 := ho.below hb
  have k1 : Wd B w w1 := .of_new hb hB
  clear h ho hb d0 m0 m1 m2 m3 m4 m5 t0 t1 t2 t3 t4 t5 t6 t7 HS
  have HT := Lib.hid (tell_at 2 (setToT (D.m.t t)) ht h1)
  go_wp2_with fail
  go_at_call 110; refine HT.out.mono ?_; rintro e w2 ⟨rfl, w0, hb, hw⟩
  have hB1 : B ≤ w1.heap.size := Nat.le_trans hB k1.below.size
  have h2 := (h1.below hb).setEv (evI D.m 2 t (setToT (D.m.t t)))
  have k2 := (k1.trans (.of_new hb hB1)).setDs (h1.below hb) 14 [.int .i64 2, .int .i64 (t : Int), .int .i64 (D.m.t t).ge, .int .i64 (setToT (D.m.t t)), .int .i64 D.m.c]
  have o2 := (o1.below hb).other (h1.below hb).e (w' := w0.setCells db 14 [.int .i64 2, .int .i64 (t : Int), .int .i64 (D.m.t t).ge, .int .i64 (setToT (D.m.t t)), .int .i64 D.m.c]) (by decide) (by decide) (by decide) (by decide) (fun y hy => heap_setCells_nd hy _ _ _)
  replace h2 : DeedX w2 B mb db a b c d ⟨D.m, D.h, evI D.m 2 t (setToT (D.m.t t))⟩ := by rw [hw]; exact h2
  rw [← hw] at k2 o2
  clear h1 o1 k1 hb hw HT hB1
  have hB2 : B ≤ w2.heap.size := Nat.le_trans hB k2.below.size
  have HZ := Lib.hid (seizeD_any (D := ⟨D.m, D.h, evI D.m 2 t (setToT (D.m.t t))⟩) hB2 ht h2)
  clear h2 o2
  go_wp2_with (go_at_call 112; refine HZ.out.mono ?_; rintro e w3 ⟨rfl, h3, k3⟩)
  go_end0
  exact ⟨rfl, h3, k2.trans k3⟩

set_option maxRecDepth 100000 in
set_option maxHeartbeats 4000000 in
theorem inHand_none {w : World} {B mb db : Nat} {a b c d : Int} {D : Dn} (hB : B ≤ w.heap.size) (ht : D.h.tim = -1) (h : DeedX w B mb db a b c d D) :
    Calls Tryz.prog 79 #[ptrV db] w (GaveUp B w) := by
  obtain ⟨_, _, _, _, _, _, _, d7, _, _⟩ := h.cells
  rw [ht] at d7
  clear h ht
  go_enter Tryz.func79, Tryz.ntmps79
  go_wp2_with (go_at_call 50; refine (giveUp_any _).mono ?_; rintro e w1 ⟨⟨u, pv, rfl⟩, rfl⟩)
  exact ⟨rfl, ⟨_, _, rfl⟩, Below.refl _ _⟩

set_option maxRecDepth 100000 in
set_option maxHeartbeats 4000000 in
theorem inHand_no {w : World} {B mb db t : Nat} {a b c d : Int} {D : Dn} (hB : B ≤ w.heap.size) (ht : t < D.m.tn) (het : D.h.tim = (t : Int)) (hq : ¬ ((D.m.t t).st = 2 ∧ (D.m.t t).pl ≠ -1)) (h : DeedX w B mb db a b c d D) :
    Calls Tryz.prog 79 #[ptrV db] w (GaveUp B w) := by
  obtain ⟨d0, _, _, _, _, _, _, d7, _, _⟩ := h.cells
  rw [het] at d7
  obtain ⟨tv, g, V, ho⟩ := h.o.opened
  obtain ⟨tg, tc, rfl⟩ := ho.tms ht
  obtain ⟨m0, m1, m2, m3, m4, m5⟩ := six ho.m
  obtain ⟨⟨t0, _, _, _, t4, _, _, _⟩, _⟩ := ho.tcells ht
  have i2 : (0 : Int) ≤ (t : Int) := by omega
  have i3 : (t : Int) < (D.m.tn : Int) := by omega
  have ine : ((t : Int) == -1) = false := by simp
  have k0 := (Below.refl w.heap.size w).drew
  clear h ho het
  by_cases hs : (D.m.t t).st = 2
  · have hp : (D.m.t t).pl = -1 := by
      by_cases e : (D.m.t t).pl = -1
      · exact e
      · exact absurd ⟨hs, e⟩ hq
    rw [hs] at t0
    rw [hp] at t4
    clear hs hp hq
    go_enter Tryz.func79, Tryz.ntmps79
    go_upto_region 3 with fail
    go_still_tail 13, (by kernel_rfl)
    change wpList _ _ _ _ _ w.drew
    replace t0 := (k0.cell (p := ⟨tg, t * 8, none⟩) (World.block_lt_of_cell? w _ t0)).trans t0
    replace t4 := (k0.cell (p := ⟨tg, t * 8 + 4, none⟩) (World.block_lt_of_cell? w _ t4)).trans t4
    clear d0 d7 m0 m1 m2 m3 m4 m5
    generalize w.drew = w1 at k0 t0 t4 ⊢
    go_wp2_with (go_at_call 50; refine (giveUp_any _).mono ?_; rintro e w2 ⟨⟨u, pv, rfl⟩, rfl⟩)
    exact ⟨rfl, ⟨_, _, rfl⟩, k0.mono hB⟩
  · have hs1 : ((D.m.t t).st != 2) = true := by simpa using hs
    clear hq hs
    go_enter Tryz.func79, Tryz.ntmps79
    go_upto_region 3 with fail
    go_still_tail 13, (by kernel_rfl)
    change wpList _ _ _ _ _ w.drew
    replace t0 := (k0.cell (p := ⟨tg, t * 8, none⟩) (World.block_lt_of_cell? w _ t0)).trans t0
    clear d0 d7 m0 m1 m2 m3 m4 m5 t4
    generalize w.drew = w1 at k0 t0 ⊢
    go_wp2_with (go_at_call 50; refine (giveUp_any _).mono ?_; rintro e w2 ⟨⟨u, pv, rfl⟩, rfl⟩)
    exact ⟨rfl, ⟨_, _, rfl⟩, k0.mono hB⟩

set_option maxRecDepth 100000 in
set_option maxHeartbeats 4000000 in
theorem inHand_yes {w : World} {B mb db t tg n tc g : Nat} {V : Nat → Value} {a b c d : Int} {D : Dn} (ht : t < D.m.tn) (het : D.h.tim = (t : Int)) (hs : (D.m.t t).st = 2) (hp : (D.m.t t).pl ≠ -1) (h : DeedX w B mb db a b c d D) (ho : OpenX w B mb a b c (.slice (some ⟨tg, 0, none⟩) n tc) g V D.m) :
    Calls Tryz.prog 79 #[ptrV db] w fun e w' => e = .returned (.pointer (some ⟨tg, t * 8, none⟩)) ∧ Below w.heap.size w w' := by
  have hn := ho.t.len
  subst hn
  obtain ⟨d0, _, _, _, _, _, _, d7, _, _⟩ := h.cells
  rw [het] at d7
  obtain ⟨m0, m1, m2, m3, m4, m5⟩ := six ho.m
  obtain ⟨⟨t0, _, _, _, t4, _, _, _⟩, _⟩ := ho.tcells ht
  rw [hs] at t0
  have i2 : (0 : Int) ≤ (t : Int) := by omega
  have i3 : (t : Int) < (D.m.tn : Int) := by omega
  have ine : ((t : Int) == -1) = false := by simp
  have hp1 : ((D.m.t t).pl == -1) = false := by simpa using hp
  have k0 := (Below.refl w.heap.size w).drew
  clear h ho het hs hp
  go_enter Tryz.func79, Tryz.ntmps79
  go_upto_region 3 with fail
  go_still_tail 13, (by kernel_rfl)
  change wpList _ _ _ _ _ w.drew
  replace t0 := (k0.cell (p := ⟨tg, t * 8, none⟩) (World.block_lt_of_cell? w _ t0)).trans t0
  replace t4 := (k0.cell (p := ⟨tg, t * 8 + 4, none⟩) (World.block_lt_of_cell? w _ t4)).trans t4
  clear d0 d7 m0 m1 m2 m3 m4 m5
  generalize w.drew = w1 at k0 t0 t4 ⊢
  go_wp2
  go_ret
  exact ⟨rfl, k0⟩

end Go.Proofs.YtflekodaiejflaaGreatDoor

/-
  A step's memory is no greater than the laws bear (chapters 9 to 14). No Go in sight.
-/
namespace Go.Proofs.YtflekodaiejflaaGreatDoor
open Go.RowKit Go.Joins
set_option linter.unusedVariables false
set_option linter.unusedSimpArgs false

theorem Near.trans0 {M N K : Me} (h : Near M N) (tn : K.tn = N.tn) (pn : K.pn = N.pn) (c : K.c = N.c) (n : ∀ k, (K.p k).n ≤ (N.p k).n) : Near M K :=
  ⟨tn.trans h.tn, pn.trans h.pn, c.trans h.c, fun k => Nat.le_trans (n k) (h.n k)⟩
theorem near_sub {M K : Me} (tn : K.tn = M.tn) (pn : K.pn = M.pn) (c : K.c = M.c) (n : ∀ k, (K.p k).n ≤ (M.p k).n) : Near M K := (Near.refl M).trans0 tn pn c n
theorem setPc_le (M : Me) (t j : Nat) (x : Int) (k : Nat) : ((setPc M t j x).p k).n ≤ (M.p k).n := Nat.le_of_eq (setPc_n M t j x k)
theorem size_zero : sizeM me0 ≤ 1048576 := by decide
theorem size_add {a b c : Int} {M : Me} (T : Tm) (hf : MemFacts a b c M) : sizeM (addTm M T) ≤ 1048576 := by
  have h1 := (Near.refl M).size hf
  have h2 : sizeM (addTm M T) = sizeM M + 1 := by
    show M.tn + 1 + (M.pn + slotsP M.p M.pn) = M.tn + (M.pn + slotsP M.p M.pn) + 1
    omega
  have h3 : sizeM M ≤ 1000 := by
    have e := hf.pn
    have ht := hf.tn
    have hs : slotsP M.p M.pn ≤ 30 * M.pn := by
      have : ∀ m, m ≤ M.pn → slotsP M.p m ≤ 30 * m := by
        intro m
        induction m with
        | zero => intro _; simp [slotsP]
        | succ m ih =>
          intro h
          have h1 := ih (by omega)
          have h2 := hf.n m (by omega)
          show slotsP M.p m + (M.p m).n ≤ 30 * (m + 1)
          omega
      exact this _ (Nat.le_refl _)
    show M.tn + (M.pn + slotsP M.p M.pn) ≤ 1000
    omega
  omega
theorem near_lock (D : Dn) (d : Int) (k : Nat) (q : Int) : Near D.m (lockD D d k q).m := by
  unfold lockD
  split
  · exact near_sub rfl rfl rfl (setPc_le _ _ _ _)
  · exact Near.refl _
theorem near_unlock (M : Me) (d : Int) (k : Nat) : Near M (unlockM M d k) := by
  unfold unlockM
  split
  · exact near_sub rfl rfl rfl (setPc_le _ _ _ _)
  · exact Near.refl _
theorem near_push (D : Dn) (k : Nat) : Near D.m (pushD D k).m := by
  show Near D.m (pushedM D k)
  unfold pushedM
  have h : Near D.m (genM (keyedM D) D.h.tim.toNat) := by
    unfold keyedM
    split
    · exact near_sub rfl rfl rfl (fun _ => Nat.le_refl _)
    · exact near_sub rfl rfl rfl (fun _ => Nat.le_refl _)
  refine ⟨h.tn, h.pn, h.c, fun x => Nat.le_trans (pushM_n _ _ _ _) (Nat.succ_le_succ ?_)⟩
  unfold keyedM
  split <;> exact Nat.le_refl _
/-- the step of creating -/
theorem createG_size (a b c d : Int) (M : Me) (h : Hd) : sizeM (createG a b c d M h).m ≤ 1048576 := by
  unfold createG
  split
  · rename_i hq
    have hf : MemFacts a b c M := by
      rw [createQ, Bool.and_eq_true] at hq
      exact stepFit_facts hq.1
    unfold createD
    split
    · unfold allocD
      split
      · exact (Near.refl M).size hf
      · exact size_add _ hf
    split
    · exact (near_lock ⟨M, h, et0⟩ d _ _).size hf
    split
    · exact (near_push ⟨M, h, et0⟩ _).size hf
    · exact (near_unlock M d _).size hf
  · exact size_zero

end Go.Proofs.YtflekodaiejflaaGreatDoor

/-
  The face of a step, in the program: what gives up answers the zero Done and false (chapter 9). For whatever step.
-/
namespace Go.Proofs.YtflekodaiejflaaGreatDoor
open Go.Deep Go.RowKit Go.Joins
set_option linter.unusedVariables false
set_option linter.unusedSimpArgs false

/-- what a step does to a deed: it is another one then, or it gives up -/
def Does (q : Bool) (N : Dn) (B mb db : Nat) (a b c d : Int) (w : World) (e : Ending) (w' : World) : Prop :=
  match q with
  | true => e = .returned (.tuple #[]) ∧ InD B mb db a b c d N w w'
  | false => GaveUp B w e w'

set_option maxRecDepth 100000 in
set_option maxHeartbeats 8000000 in
theorem tryStep_unfit (F : FuncId) (hE : ∀ (args : Array Value) (w : World), (callFunc F args).run Tryz.prog w = .ok (.enter F args) w) (a b c d : Int) (h : Hd) {tv pv : Value} {M : Me} {w : World} (hs : sizeM M ≤ 1048576) (hm : MemAt w tv pv M) (hf : stepFit a b c d M h = false) :
    Calls Tryz.prog 26 #[.agg #[.int .i64 a, .int .i64 b, .int .i64 c], meV M.c tv pv, .int .i64 d, hdV h, .func (.func F) #[] #[]] w (NewDn dn0 false w) := by
  obtain ⟨va, vc, qa, qc, rfl, rfl⟩ := hm.form
  have k0 := (((((Below.refl w.heap.size w).alloc (Nat.le_refl _) (.cells #[.int .i64 a, .int .i64 b, .int .i64 c] 46)).alloc (by simp) (memO M.c (.slice va M.tn vc) (.slice qa M.pn qc) 36)).alloc (by simp; omega) (.cells (hdCells h) 39)).alloc (by simp; omega) (.cells #[.int .i64 0, .slice none 0 0, .slice none 0 0, .int .i64 0, .int .i64 0, .int .i64 0, .int .i64 0, .int .i64 0, .int .i64 0, .int .i64 0, .bool false, .int .i64 0, .int .i64 0, .int .i64 0, .int .i64 0, .int .i64 0, .int .i64 0, .int .i64 0, .int .i64 0, .int .i64 0] 43))
  have hP := alloc_block (.cells #[.int .i64 0, .slice none 0 0, .slice none 0 0, .int .i64 0, .int .i64 0, .int .i64 0, .int .i64 0, .int .i64 0, .int .i64 0, .int .i64 0, .bool false, .int .i64 0, .int .i64 0, .int .i64 0, .int .i64 0, .int .i64 0, .int .i64 0, .int .i64 0, .int .i64 0, .int .i64 0] 43) (alloc_block (.cells (hdCells h) 39) (alloc_block (memO M.c (.slice va M.tn vc) (.slice qa M.pn qc) 36) (heap_alloc_new w (.cells #[.int .i64 a, .int .i64 b, .int .i64 c] 46))))
  have hX := heap_alloc_new (w.alloc (.cells #[.int .i64 a, .int .i64 b, .int .i64 c] 46)) (memO M.c (.slice va M.tn vc) (.slice qa M.pn qc) 36)
  rw [show (w.alloc (.cells #[.int .i64 a, .int .i64 b, .int .i64 c] 46)).heap.size = w.heap.size + 1 by simp] at hX
  replace hX := alloc_block (.cells #[.int .i64 0, .slice none 0 0, .slice none 0 0, .int .i64 0, .int .i64 0, .int .i64 0, .int .i64 0, .int .i64 0, .int .i64 0, .int .i64 0, .bool false, .int .i64 0, .int .i64 0, .int .i64 0, .int .i64 0, .int .i64 0, .int .i64 0, .int .i64 0, .int .i64 0, .int .i64 0] 43) (alloc_block (.cells (hdCells h) 39) hX)
  have hH := heap_alloc_new ((w.alloc (.cells #[.int .i64 a, .int .i64 b, .int .i64 c] 46)).alloc (memO M.c (.slice va M.tn vc) (.slice qa M.pn qc) 36)) (.cells (hdCells h) 39)
  rw [show ((w.alloc (.cells #[.int .i64 a, .int .i64 b, .int .i64 c] 46)).alloc (memO M.c (.slice va M.tn vc) (.slice qa M.pn qc) 36)).heap.size = w.heap.size + 1 + 1 by simp] at hH
  replace hH := alloc_block (.cells #[.int .i64 0, .slice none 0 0, .slice none 0 0, .int .i64 0, .int .i64 0, .int .i64 0, .int .i64 0, .int .i64 0, .int .i64 0, .int .i64 0, .bool false, .int .i64 0, .int .i64 0, .int .i64 0, .int .i64 0, .int .i64 0, .int .i64 0, .int .i64 0, .int .i64 0, .int .i64 0] 43) hH
  have hR := heap_alloc_new (((w.alloc (.cells #[.int .i64 a, .int .i64 b, .int .i64 c] 46)).alloc (memO M.c (.slice va M.tn vc) (.slice qa M.pn qc) 36)).alloc (.cells (hdCells h) 39)) (.cells #[.int .i64 0, .slice none 0 0, .slice none 0 0, .int .i64 0, .int .i64 0, .int .i64 0, .int .i64 0, .int .i64 0, .int .i64 0, .int .i64 0, .bool false, .int .i64 0, .int .i64 0, .int .i64 0, .int .i64 0, .int .i64 0, .int .i64 0, .int .i64 0, .int .i64 0, .int .i64 0] 43)
  rw [show (((w.alloc (.cells #[.int .i64 a, .int .i64 b, .int .i64 c] 46)).alloc (memO M.c (.slice va M.tn vc) (.slice qa M.pn qc) 36)).alloc (.cells (hdCells h) 39)).heap.size = w.heap.size + 1 + 1 + 1 by simp] at hR
  have HM := Lib.hid (hm.below k0)
  have s0 : ((((w.alloc (.cells #[.int .i64 a, .int .i64 b, .int .i64 c] 46)).alloc (memO M.c (.slice va M.tn vc) (.slice qa M.pn qc) 36)).alloc (.cells (hdCells h) 39)).alloc (.cells #[.int .i64 0, .slice none 0 0, .slice none 0 0, .int .i64 0, .int .i64 0, .int .i64 0, .int .i64 0, .int .i64 0, .int .i64 0, .int .i64 0, .bool false, .int .i64 0, .int .i64 0, .int .i64 0, .int .i64 0, .int .i64 0, .int .i64 0, .int .i64 0, .int .i64 0, .int .i64 0] 43)).heap.size = w.heap.size + 1 + 1 + 1 + 1 := by simp
  clear hm
  go_enter_defers Tryz.func26, Tryz.ntmps26
  go_upto_region 1 with fail
  generalize (((w.alloc (.cells #[.int .i64 a, .int .i64 b, .int .i64 c] 46)).alloc (memO M.c (.slice va M.tn vc) (.slice qa M.pn qc) 36)).alloc (.cells (hdCells h) 39)).alloc (.cells #[.int .i64 0, .slice none 0 0, .slice none 0 0, .int .i64 0, .int .i64 0, .int .i64 0, .int .i64 0, .int .i64 0, .int .i64 0, .int .i64 0, .bool false, .int .i64 0, .int .i64 0, .int .i64 0, .int .i64 0, .int .i64 0, .int .i64 0, .int .i64 0, .int .i64 0, .int .i64 0] 43) = w1 at k0 hP hX hH hR HM s0 ⊢
  obtain ⟨p0, p1, p2, _, _, _⟩ := three hP
  obtain ⟨x0, x1, x2, _, _, _⟩ := three hX
  obtain ⟨h0, h1, h2, h3, h4, h5, h6, h7, h8, h9, h10, h11, _⟩ := twelve hH
  go_wp2_with (go_at_call 46; refine (newDeed_no a b c d h hs HM.out hf).mono ?_; rintro e w2 ⟨⟨u, pv, rfl⟩, hb⟩)
  replace hR := b_block hb hR (lt_of_block hR)
  have kz := k0.trans (hb.mono k0.size)
  clear p0 p1 p2 x0 x1 x2 h0 h1 h2 h3 h4 h5 h6 h7 h8 h9 h10 h11 hP hX hH
  refine leaves_cons (f := 45) (args := #[]) (by simp) (by simp [go_sem]) ?_
  refine (catch_panicking _ _ _ _).mono ?_
  rintro e u' w9 ⟨rfl, rfl, rfl⟩
  exact ⟨_, results_pair (cs := [.int .i64 0, .slice none 0 0, .slice none 0 0, .int .i64 0, .int .i64 0, .int .i64 0, .int .i64 0, .int .i64 0, .int .i64 0, .int .i64 0, .bool false, .int .i64 0, .int .i64 0, .int .i64 0, .int .i64 0, .int .i64 0, .int .i64 0, .int .i64 0, .int .i64 0, .int .i64 0]) rfl rfl rfl (range_of_block hR) Tryz.underlying43 rfl done_info, _, _, rfl, own_zero _ _, kz⟩

set_option maxRecDepth 100000 in
set_option maxHeartbeats 8000000 in
theorem tryStep_no (F : FuncId) (hE : ∀ (args : Array Value) (w : World), (callFunc F args).run Tryz.prog w = .ok (.enter F args) w) (a b c d : Int) (h : Hd) {tv pv : Value} {M : Me} {w : World} (hs : sizeM M ≤ 1048576) (hm : MemAt w tv pv M) {N : Dn} (HF : RowKit.Hid (∀ (W : World) (B mb db : Nat), Below w.heap.size w W → B ≤ W.heap.size → DeedX W B mb db a b c d ⟨M, h, et0⟩ → Calls Tryz.prog F #[ptrV db] W (Does false N B mb db a b c d W))) (hf : stepFit a b c d M h = true) :
    Calls Tryz.prog 26 #[.agg #[.int .i64 a, .int .i64 b, .int .i64 c], meV M.c tv pv, .int .i64 d, hdV h, .func (.func F) #[] #[]] w (NewDn dn0 false w) := by
  obtain ⟨va, vc, qa, qc, rfl, rfl⟩ := hm.form
  have k0 := (((((Below.refl w.heap.size w).alloc (Nat.le_refl _) (.cells #[.int .i64 a, .int .i64 b, .int .i64 c] 46)).alloc (by simp) (memO M.c (.slice va M.tn vc) (.slice qa M.pn qc) 36)).alloc (by simp; omega) (.cells (hdCells h) 39)).alloc (by simp; omega) (.cells #[.int .i64 0, .slice none 0 0, .slice none 0 0, .int .i64 0, .int .i64 0, .int .i64 0, .int .i64 0, .int .i64 0, .int .i64 0, .int .i64 0, .bool false, .int .i64 0, .int .i64 0, .int .i64 0, .int .i64 0, .int .i64 0, .int .i64 0, .int .i64 0, .int .i64 0, .int .i64 0] 43))
  have hP := alloc_block (.cells #[.int .i64 0, .slice none 0 0, .slice none 0 0, .int .i64 0, .int .i64 0, .int .i64 0, .int .i64 0, .int .i64 0, .int .i64 0, .int .i64 0, .bool false, .int .i64 0, .int .i64 0, .int .i64 0, .int .i64 0, .int .i64 0, .int .i64 0, .int .i64 0, .int .i64 0, .int .i64 0] 43) (alloc_block (.cells (hdCells h) 39) (alloc_block (memO M.c (.slice va M.tn vc) (.slice qa M.pn qc) 36) (heap_alloc_new w (.cells #[.int .i64 a, .int .i64 b, .int .i64 c] 46))))
  have hX := heap_alloc_new (w.alloc (.cells #[.int .i64 a, .int .i64 b, .int .i64 c] 46)) (memO M.c (.slice va M.tn vc) (.slice qa M.pn qc) 36)
  rw [show (w.alloc (.cells #[.int .i64 a, .int .i64 b, .int .i64 c] 46)).heap.size = w.heap.size + 1 by simp] at hX
  replace hX := alloc_block (.cells #[.int .i64 0, .slice none 0 0, .slice none 0 0, .int .i64 0, .int .i64 0, .int .i64 0, .int .i64 0, .int .i64 0, .int .i64 0, .int .i64 0, .bool false, .int .i64 0, .int .i64 0, .int .i64 0, .int .i64 0, .int .i64 0, .int .i64 0, .int .i64 0, .int .i64 0, .int .i64 0] 43) (alloc_block (.cells (hdCells h) 39) hX)
  have hH := heap_alloc_new ((w.alloc (.cells #[.int .i64 a, .int .i64 b, .int .i64 c] 46)).alloc (memO M.c (.slice va M.tn vc) (.slice qa M.pn qc) 36)) (.cells (hdCells h) 39)
  rw [show ((w.alloc (.cells #[.int .i64 a, .int .i64 b, .int .i64 c] 46)).alloc (memO M.c (.slice va M.tn vc) (.slice qa M.pn qc) 36)).heap.size = w.heap.size + 1 + 1 by simp] at hH
  replace hH := alloc_block (.cells #[.int .i64 0, .slice none 0 0, .slice none 0 0, .int .i64 0, .int .i64 0, .int .i64 0, .int .i64 0, .int .i64 0, .int .i64 0, .int .i64 0, .bool false, .int .i64 0, .int .i64 0, .int .i64 0, .int .i64 0, .int .i64 0, .int .i64 0, .int .i64 0, .int .i64 0, .int .i64 0] 43) hH
  have hR := heap_alloc_new (((w.alloc (.cells #[.int .i64 a, .int .i64 b, .int .i64 c] 46)).alloc (memO M.c (.slice va M.tn vc) (.slice qa M.pn qc) 36)).alloc (.cells (hdCells h) 39)) (.cells #[.int .i64 0, .slice none 0 0, .slice none 0 0, .int .i64 0, .int .i64 0, .int .i64 0, .int .i64 0, .int .i64 0, .int .i64 0, .int .i64 0, .bool false, .int .i64 0, .int .i64 0, .int .i64 0, .int .i64 0, .int .i64 0, .int .i64 0, .int .i64 0, .int .i64 0, .int .i64 0] 43)
  rw [show (((w.alloc (.cells #[.int .i64 a, .int .i64 b, .int .i64 c] 46)).alloc (memO M.c (.slice va M.tn vc) (.slice qa M.pn qc) 36)).alloc (.cells (hdCells h) 39)).heap.size = w.heap.size + 1 + 1 + 1 by simp] at hR
  have HM := Lib.hid (hm.below k0)
  have s0 : ((((w.alloc (.cells #[.int .i64 a, .int .i64 b, .int .i64 c] 46)).alloc (memO M.c (.slice va M.tn vc) (.slice qa M.pn qc) 36)).alloc (.cells (hdCells h) 39)).alloc (.cells #[.int .i64 0, .slice none 0 0, .slice none 0 0, .int .i64 0, .int .i64 0, .int .i64 0, .int .i64 0, .int .i64 0, .int .i64 0, .int .i64 0, .bool false, .int .i64 0, .int .i64 0, .int .i64 0, .int .i64 0, .int .i64 0, .int .i64 0, .int .i64 0, .int .i64 0, .int .i64 0] 43)).heap.size = w.heap.size + 1 + 1 + 1 + 1 := by simp
  clear hm
  go_enter_defers Tryz.func26, Tryz.ntmps26
  go_upto_region 1 with fail
  generalize (((w.alloc (.cells #[.int .i64 a, .int .i64 b, .int .i64 c] 46)).alloc (memO M.c (.slice va M.tn vc) (.slice qa M.pn qc) 36)).alloc (.cells (hdCells h) 39)).alloc (.cells #[.int .i64 0, .slice none 0 0, .slice none 0 0, .int .i64 0, .int .i64 0, .int .i64 0, .int .i64 0, .int .i64 0, .int .i64 0, .int .i64 0, .bool false, .int .i64 0, .int .i64 0, .int .i64 0, .int .i64 0, .int .i64 0, .int .i64 0, .int .i64 0, .int .i64 0, .int .i64 0] 43) = w1 at k0 hP hX hH hR HM s0 ⊢
  obtain ⟨p0, p1, p2, _, _, _⟩ := three hP
  obtain ⟨x0, x1, x2, _, _, _⟩ := three hX
  obtain ⟨h0, h1, h2, h3, h4, h5, h6, h7, h8, h9, h10, h11, _⟩ := twelve hH
  go_wp2_with fail
  go_at_call 46; refine (newDeed_yes a b c d h hs HM.out hf).mono ?_; rintro e w2 ⟨mb, db, rfl, hD, hb⟩
  have lR := lt_of_block hR
  replace hR := b_block hb hR lR
  have k2 := k0.trans (hb.mono k0.size)
  have s2 := hb.size
  clear p0 p1 p2 x0 x1 x2 h0 h1 h2 h3 h4 h5 h6 h7 h8 h9 h10 h11 hP hX hH HM k0 hb
  go_wp2_with fail
  refine (HF.out _ _ _ _ k2 s2 hD).mono ?_; rintro e w3 ⟨⟨u, pv, rfl⟩, hb⟩
  replace hR := b_block hb hR lR
  have kz := k2.trans (hb.mono (by omega))
  go_wp2
  refine leaves_cons (f := 45) (args := #[]) (by simp) (by simp [go_sem]) ?_
  refine (catch_panicking _ _ _ _).mono ?_
  rintro e u' w9 ⟨rfl, rfl, rfl⟩
  exact ⟨_, results_pair (cs := [.int .i64 0, .slice none 0 0, .slice none 0 0, .int .i64 0, .int .i64 0, .int .i64 0, .int .i64 0, .int .i64 0, .int .i64 0, .int .i64 0, .bool false, .int .i64 0, .int .i64 0, .int .i64 0, .int .i64 0, .int .i64 0, .int .i64 0, .int .i64 0, .int .i64 0, .int .i64 0]) rfl rfl rfl (range_of_block hR) Tryz.underlying43 rfl done_info, _, _, rfl, own_zero _ _, kz⟩

set_option maxRecDepth 100000 in
set_option maxHeartbeats 8000000 in
theorem tryStep_yes (F : FuncId) (hE : ∀ (args : Array Value) (w : World), (callFunc F args).run Tryz.prog w = .ok (.enter F args) w) (a b c d : Int) (h : Hd) {tv pv : Value} {M : Me} {w : World} (hs : sizeM M ≤ 1048576) (hm : MemAt w tv pv M) {N : Dn} (hN : sizeM N.m ≤ 1048576) (HF : RowKit.Hid (∀ (W : World) (B mb db : Nat), Below w.heap.size w W → B ≤ W.heap.size → DeedX W B mb db a b c d ⟨M, h, et0⟩ → Calls Tryz.prog F #[ptrV db] W (Does true N B mb db a b c d W))) (hf : stepFit a b c d M h = true) :
    Calls Tryz.prog 26 #[.agg #[.int .i64 a, .int .i64 b, .int .i64 c], meV M.c tv pv, .int .i64 d, hdV h, .func (.func F) #[] #[]] w (NewDn N true w) := by
  obtain ⟨va, vc, qa, qc, rfl, rfl⟩ := hm.form
  have k0 := (((((Below.refl w.heap.size w).alloc (Nat.le_refl _) (.cells #[.int .i64 a, .int .i64 b, .int .i64 c] 46)).alloc (by simp) (memO M.c (.slice va M.tn vc) (.slice qa M.pn qc) 36)).alloc (by simp; omega) (.cells (hdCells h) 39)).alloc (by simp; omega) (.cells #[.int .i64 0, .slice none 0 0, .slice none 0 0, .int .i64 0, .int .i64 0, .int .i64 0, .int .i64 0, .int .i64 0, .int .i64 0, .int .i64 0, .bool false, .int .i64 0, .int .i64 0, .int .i64 0, .int .i64 0, .int .i64 0, .int .i64 0, .int .i64 0, .int .i64 0, .int .i64 0] 43))
  have hP := alloc_block (.cells #[.int .i64 0, .slice none 0 0, .slice none 0 0, .int .i64 0, .int .i64 0, .int .i64 0, .int .i64 0, .int .i64 0, .int .i64 0, .int .i64 0, .bool false, .int .i64 0, .int .i64 0, .int .i64 0, .int .i64 0, .int .i64 0, .int .i64 0, .int .i64 0, .int .i64 0, .int .i64 0] 43) (alloc_block (.cells (hdCells h) 39) (alloc_block (memO M.c (.slice va M.tn vc) (.slice qa M.pn qc) 36) (heap_alloc_new w (.cells #[.int .i64 a, .int .i64 b, .int .i64 c] 46))))
  have hX := heap_alloc_new (w.alloc (.cells #[.int .i64 a, .int .i64 b, .int .i64 c] 46)) (memO M.c (.slice va M.tn vc) (.slice qa M.pn qc) 36)
  rw [show (w.alloc (.cells #[.int .i64 a, .int .i64 b, .int .i64 c] 46)).heap.size = w.heap.size + 1 by simp] at hX
  replace hX := alloc_block (.cells #[.int .i64 0, .slice none 0 0, .slice none 0 0, .int .i64 0, .int .i64 0, .int .i64 0, .int .i64 0, .int .i64 0, .int .i64 0, .int .i64 0, .bool false, .int .i64 0, .int .i64 0, .int .i64 0, .int .i64 0, .int .i64 0, .int .i64 0, .int .i64 0, .int .i64 0, .int .i64 0] 43) (alloc_block (.cells (hdCells h) 39) hX)
  have hH := heap_alloc_new ((w.alloc (.cells #[.int .i64 a, .int .i64 b, .int .i64 c] 46)).alloc (memO M.c (.slice va M.tn vc) (.slice qa M.pn qc) 36)) (.cells (hdCells h) 39)
  rw [show ((w.alloc (.cells #[.int .i64 a, .int .i64 b, .int .i64 c] 46)).alloc (memO M.c (.slice va M.tn vc) (.slice qa M.pn qc) 36)).heap.size = w.heap.size + 1 + 1 by simp] at hH
  replace hH := alloc_block (.cells #[.int .i64 0, .slice none 0 0, .slice none 0 0, .int .i64 0, .int .i64 0, .int .i64 0, .int .i64 0, .int .i64 0, .int .i64 0, .int .i64 0, .bool false, .int .i64 0, .int .i64 0, .int .i64 0, .int .i64 0, .int .i64 0, .int .i64 0, .int .i64 0, .int .i64 0, .int .i64 0] 43) hH
  have hR := heap_alloc_new (((w.alloc (.cells #[.int .i64 a, .int .i64 b, .int .i64 c] 46)).alloc (memO M.c (.slice va M.tn vc) (.slice qa M.pn qc) 36)).alloc (.cells (hdCells h) 39)) (.cells #[.int .i64 0, .slice none 0 0, .slice none 0 0, .int .i64 0, .int .i64 0, .int .i64 0, .int .i64 0, .int .i64 0, .int .i64 0, .int .i64 0, .bool false, .int .i64 0, .int .i64 0, .int .i64 0, .int .i64 0, .int .i64 0, .int .i64 0, .int .i64 0, .int .i64 0, .int .i64 0] 43)
  rw [show (((w.alloc (.cells #[.int .i64 a, .int .i64 b, .int .i64 c] 46)).alloc (memO M.c (.slice va M.tn vc) (.slice qa M.pn qc) 36)).alloc (.cells (hdCells h) 39)).heap.size = w.heap.size + 1 + 1 + 1 by simp] at hR
  have HM := Lib.hid (hm.below k0)
  have s0 : ((((w.alloc (.cells #[.int .i64 a, .int .i64 b, .int .i64 c] 46)).alloc (memO M.c (.slice va M.tn vc) (.slice qa M.pn qc) 36)).alloc (.cells (hdCells h) 39)).alloc (.cells #[.int .i64 0, .slice none 0 0, .slice none 0 0, .int .i64 0, .int .i64 0, .int .i64 0, .int .i64 0, .int .i64 0, .int .i64 0, .int .i64 0, .bool false, .int .i64 0, .int .i64 0, .int .i64 0, .int .i64 0, .int .i64 0, .int .i64 0, .int .i64 0, .int .i64 0, .int .i64 0] 43)).heap.size = w.heap.size + 1 + 1 + 1 + 1 := by simp
  clear hm
  go_enter_defers Tryz.func26, Tryz.ntmps26
  go_upto_region 1 with fail
  generalize (((w.alloc (.cells #[.int .i64 a, .int .i64 b, .int .i64 c] 46)).alloc (memO M.c (.slice va M.tn vc) (.slice qa M.pn qc) 36)).alloc (.cells (hdCells h) 39)).alloc (.cells #[.int .i64 0, .slice none 0 0, .slice none 0 0, .int .i64 0, .int .i64 0, .int .i64 0, .int .i64 0, .int .i64 0, .int .i64 0, .int .i64 0, .bool false, .int .i64 0, .int .i64 0, .int .i64 0, .int .i64 0, .int .i64 0, .int .i64 0, .int .i64 0, .int .i64 0, .int .i64 0] 43) = w1 at k0 hP hX hH hR HM s0 ⊢
  obtain ⟨p0, p1, p2, _, _, _⟩ := three hP
  obtain ⟨x0, x1, x2, _, _, _⟩ := three hX
  obtain ⟨h0, h1, h2, h3, h4, h5, h6, h7, h8, h9, h10, h11, _⟩ := twelve hH
  go_wp2_with fail
  go_at_call 46; refine (newDeed_yes a b c d h hs HM.out hf).mono ?_; rintro e w2 ⟨mb, db, rfl, hD, hb⟩
  have lR := lt_of_block hR
  replace hR := b_block hb hR lR
  have k2 := k0.trans (hb.mono k0.size)
  have s2 := hb.size
  clear p0 p1 p2 x0 x1 x2 h0 h1 h2 h3 h4 h5 h6 h7 h8 h9 h10 h11 hP hX hH HM k0 hb
  go_wp2_with fail
  refine (HF.out _ _ _ _ k2 s2 hD).mono ?_; rintro e w3 ⟨rfl, hD3, k3⟩
  have hB3 : w1.heap.size ≤ w3.heap.size := Nat.le_trans s2 k3.below.size
  replace hR := b_block k3.below hR lR
  replace k3 := k2.trans (k3.below.mono (by omega))
  clear hD k2
  go_wp2_with fail
  go_at_call 47; refine (done_any hN hB3 hD3).mono ?_; rintro e w4 ⟨t4, p4, rfl, hO, hb⟩
  replace hR := b_block hb hR (lt_of_block hR)
  have k4 := k3.trans (hb.mono (by omega))
  clear hD3 k3 hb
  obtain ⟨ta, tc, pa, pc, ht, hp⟩ := hO.at.form
  subst ht hp
  obtain ⟨cs, hcs⟩ : ∃ cs : Array Value, dnCells N (.slice ta N.m.tn tc) (.slice pa N.m.pn pc) = cs := ⟨_, rfl⟩
  rw [show dnV N (.slice ta N.m.tn tc) (.slice pa N.m.pn pc) = Value.agg cs from congrArg Value.agg hcs]
  have hsz : cs.size = 20 := by { rw [← hcs]; rfl }
  have hone : cs.all (·.oneCell') = true := by { rw [← hcs]; simp [Value.oneCell'] }
  have hst := run_store_letter (P := Tryz.prog) hsz hone w4 (w.heap.size + 1 + 1 + 1) (there_of_cells hR)
  have hR5 := heap_setCells (cs := cs) hR hsz
  have hO5 := OwnMemIn.own (hO.setCells cs.toList hR)
  have k5 := b_setCells (b := w.heap.size + 1 + 1 + 1) (n := w.heap.size) (by omega) cs.toList 0 k4
  clear hR hO k4
  go_wp2
  refine leaves_cons (f := 45) (args := #[]) (by simp) (by simp [go_sem]) ?_
  refine (catch_idle _).mono ?_
  rintro e u' w9 ⟨rfl, rfl, rfl⟩
  exact ⟨_, results_pair (cs := cs.toList) rfl rfl rfl (range_of_block hR5) Tryz.underlying43 rfl (by rw [done_info]; simp [hsz]), _, _, by rw [← hcs]; rfl, hO5.mono (by omega), k5⟩

end Go.Proofs.YtflekodaiejflaaGreatDoor

/-
  The step of creating, at its face (spec, chapter 9).
-/
namespace Go.Proofs.YtflekodaiejflaaGreatDoor
open Go.Deep Go.ChangeShapes Go.WideShapes Go.ChangeAt Go.RowKit Go.Joins
set_option linter.unusedVariables false
set_option linter.unusedSimpArgs false

/-- what a call answered comes into the answer's block, told of what is new -/
theorem InDnB.new {B R : Nat} {D : Dn} {q : Bool} {w0 w1 w' : World} {e : Ending} {Z : Array Value} (hI : InDnB B D q w1 e w') (k : Below w0.heap.size w0 w1) (hB : w0.heap.size ≤ B) (lr : w0.heap.size ≤ R) (hR : w1.heap[R]? = some (.cells Z 43 (0, 0))) (hz : Z.size = 20) :
    ∃ ta tn tc pa pn pc, e = .returned (.tuple #[dnV D (.slice ta tn tc) (.slice pa pn pc), .bool q]) ∧ w'.there R 0 20 ∧ (w'.setCells R 0 (dnCells D (.slice ta tn tc) (.slice pa pn pc)).toList).rangeAt R 0 (dnCells D (.slice ta tn tc) (.slice pa pn pc)).toList ∧
      NewDn D q w0 (.returned (.tuple #[dnV D (.slice ta tn tc) (.slice pa pn pc), .bool q])) (w'.setCells R 0 (dnCells D (.slice ta tn tc) (.slice pa pn pc)).toList) ∧ Below B w1 w' := by
  obtain ⟨tv, pv, rfl, ho, hk⟩ := hI
  obtain ⟨ta, tc, pa, pc, rfl, rfl⟩ := ho.at.form
  have hR' := hk.kept hR (by decide)
  have ht : w'.there R 0 20 := by rw [← hz]; exact there_of_block hR'
  exact ⟨ta, _, tc, pa, _, pc, rfl, ht, World.rangeAt_setCells_same _ _ _ _ ht, ⟨_, _, rfl, ((ho.setCells _ hR').own).mono hB, b_setCells lr _ 0 (k.trans (hk.below.mono hB))⟩, hk.below⟩
theorem stepFit_more {a b c d : Int} {M : Me} {h : Hd} (hq : stepFit a b c d M h = true) : workB a b c d = true ∧ (0 ≤ h.tim → h.tim.toNat < M.tn) ∧ (∀ i, i < M.tn → 0 ≤ (M.t i).ge ∧ (M.t i).ge ≤ 100000) ∧ homeN a d < M.pn ∧ handB a b c h = true := by
  have F := stepFit_facts hq
  simp only [stepFit, Bool.and_eq_true, Bool.or_eq_true, beq_iff_eq] at hq
  obtain ⟨_, hh, hw, ht⟩ := hq
  refine ⟨hw, fun h0 => ?_, fun i hi => ?_, ?_, hh⟩
  · rcases ht with e | e
    · omega
    · have := inB_iff.1 e
      omega
  · have := F.tm i hi
    simp only [timerB, Bool.and_eq_true] at this
    obtain ⟨_, _, _, _, _, hg, _⟩ := this
    exact inB_iff.1 hg
  · obtain ⟨e1, e2, e3⟩ := F.pn
    obtain ⟨_, n1, n2⟩ := workB_iff.1 hw
    have h1 := Int.emod_lt_of_pos d (show (0 : Int) < a by omega)
    have h2 := Int.emod_nonneg d (show a ≠ 0 by omega)
    unfold homeN
    omega

end Go.Proofs.YtflekodaiejflaaGreatDoor

/-
  When a timer will ring; which are due (spec, chapter 5).
-/
namespace Go.Proofs.YtflekodaiejflaaGreatDoor
open Go.RowKit Go.Joins
set_option linter.unusedVariables false
set_option linter.unusedSimpArgs false

/-! ### lists of numbers, told by lists -/
def ofL (l : List Int) : Ints := fun i => l.getD i 0
theorem cellsI_congr {f g : Ints} : ∀ n, (∀ i, i < n → f i = g i) → cellsI f n = cellsI g n
  | 0, _ => rfl
  | n + 1, h => by rw [cellsI, cellsI, cellsI_congr n (fun i hi => h i (by omega)), h n (by omega)]
theorem cellsI_add (l : List Int) (x : Int) : cellsI (putI (ofL l) l.length x) (l.length + 1) = cellsI (ofL (l ++ [x])) (l ++ [x]).length := by
  rw [List.length_append]
  refine cellsI_congr _ fun i hi => ?_
  simp only [putI, ofL]
  split
  · rename_i e
    subst e
    simp
  · rename_i e
    simp only [List.getD_eq_getElem?_getD]
    rw [List.getElem?_append_left (by omega)]
theorem OwnIRow.congr0 {w : World} {B : Nat} {v : Value} {f : Ints} (h : OwnIRow w B v 0 f) : OwnIRow w B v ([] : List Int).length (ofL []) := by
  rcases h with h | ⟨g, cap, e, h⟩
  · exact .inl h
  · exact .inr ⟨g, cap, e, h.congr fun i hi => absurd hi (Nat.not_lt_zero _)⟩
/-- a call that makes a new list of numbers -/
def NewInts (l : List Int) (w : World) (e : Ending) (w' : World) : Prop := ∃ v, e = .returned v ∧ OwnIRow w' w.heap.size v l.length (ofL l) ∧ Below w.heap.size w w'

/-- when it will ring, as it stands -/
def effI (t : Tm) : Int := if t.st = 1 ∨ t.st = 6 then t.wh else if t.st = 3 ∨ t.st = 4 then t.nx else -1

set_option maxRecDepth 100000 in
set_option maxHeartbeats 1000000 in
theorem l5Effect_any (t : Tm) (w : World) :
    Calls Tryz.prog 99 #[tmV t] w fun e w' => e = .returned (.int .i64 (effI t)) ∧ Below w.heap.size w w' := by
  obtain ⟨st, wh, nx, pe, pl, ge, ki, ma⟩ := t
  have k0 := (Below.refl w.heap.size w).alloc (Nat.le_refl _) (.cells #[.int .i64 st, .int .i64 wh, .int .i64 nx, .int .i64 pe, .int .i64 pl, .int .i64 ge, .int .i64 ki, .int .i64 ma] 80)
  by_cases h1 : st = 1
  · subst h1
    rw [show effI ⟨1, wh, nx, pe, pl, ge, ki, ma⟩ = wh from rfl]
    go_enter Tryz.func99, Tryz.ntmps99
    go_wp2
    go_ret
    exact ⟨rfl, k0⟩
  by_cases h6 : st = 6
  · subst h6
    rw [show effI ⟨6, wh, nx, pe, pl, ge, ki, ma⟩ = wh from rfl]
    go_enter Tryz.func99, Tryz.ntmps99
    go_wp2
    go_ret
    exact ⟨rfl, k0⟩
  by_cases h3 : st = 3
  · subst h3
    rw [show effI ⟨3, wh, nx, pe, pl, ge, ki, ma⟩ = nx from rfl]
    go_enter Tryz.func99, Tryz.ntmps99
    go_wp2
    go_ret
    exact ⟨rfl, k0⟩
  by_cases h4 : st = 4
  · subst h4
    rw [show effI ⟨4, wh, nx, pe, pl, ge, ki, ma⟩ = nx from rfl]
    go_enter Tryz.func99, Tryz.ntmps99
    go_wp2
    go_ret
    exact ⟨rfl, k0⟩
  rw [show effI ⟨st, wh, nx, pe, pl, ge, ki, ma⟩ = -1 by simp [effI, h1, h6, h3, h4]]
  have b1 : (st == 1) = false := by simpa using h1
  have b3 : (st == 3) = false := by simpa using h3
  have b4 : (st == 4) = false := by simpa using h4
  have b6 : (st == 6) = false := by simpa using h6
  go_enter Tryz.func99, Tryz.ntmps99
  go_wp2
  go_ret
  exact ⟨rfl, k0⟩

/-- is the timer i due? -/
def dueB (M : Me) (i : Nat) : Bool := decide (0 ≤ effI (M.t i)) && (decide (effI (M.t i) ≤ M.c) && !((M.t i).st == 6))
def dueL (M : Me) : Nat → List Int
  | 0 => []
  | k + 1 => if dueB M k then dueL M k ++ [(k : Int)] else dueL M k
theorem dueL_length (M : Me) : ∀ k, (dueL M k).length ≤ k
  | 0 => Nat.le_refl _
  | k + 1 => by
    have := dueL_length M k
    rw [dueL]
    split
    · rw [List.length_append]; simp; omega
    · omega
/-- which are due, of a plan and a memory -/
def dueInL (a b c : Int) (M : Me) : List Int := if memOkB a b c M then dueL M M.tn else []
theorem dueInL_le (a b c : Int) {M : Me} (h : sizeM M ≤ 1048576) : (dueInL a b c M).length ≤ 1048576 := by
  unfold dueInL
  split
  · have := dueL_length M M.tn; have := (sizeM_le h).1; omega
  · simp
/-- what the program's function of a plan and a memory is to answer: a new list of numbers -/
def AsksML (fn : FuncId) (g : Int → Int → Int → Me → List Int) : Prop := ∀ (a b c : Int) (tv pv : Value) (M : Me) (w : World), sizeM M ≤ 1048576 → MemAt w tv pv M → Calls Tryz.prog fn #[.agg #[.int .i64 a, .int .i64 b, .int .i64 c], meV M.c tv pv] w (NewInts (g a b c M) w)

end Go.Proofs.YtflekodaiejflaaGreatDoor
