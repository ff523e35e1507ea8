/-
  Calls, in the program: what can be asked, and what is asked of a hand.
-/
import Derived.Test.YtcapaphndemaiaaHandImpl
import Derived.Test.YtcapaphndemaiaaCalled
namespace Go.Proofs.Ytcapaphndemaiaa
open Go.RowKit Go.Joins
set_option linter.unusedVariables false

set_option maxRecDepth 100000 in
set_option maxHeartbeats 1000000 in
theorem imCallOk_any (a b c : Int) (q : Ca) (w : World) :
    Calls Try.prog 8 #[.agg #[.int .i64 a, .int .i64 b, .int .i64 c], caV q] w fun e w' => e = .returned (.bool (callB a b c q)) ∧ Below w.heap.size w w' := by
  obtain ⟨k, x, y, z⟩ := q
  have k0 := ((Below.refl w.heap.size w).alloc (Nat.le_refl _) (.cells #[.int .i64 a, .int .i64 b, .int .i64 c] 27)).alloc (by simp) (.cells #[.int .i64 k, .int .i64 x, .int .i64 y, .int .i64 z] 29)
  have kk := Below.refl ((w.alloc (.cells #[.int .i64 a, .int .i64 b, .int .i64 c] 27)).alloc (.cells #[.int .i64 k, .int .i64 x, .int .i64 y, .int .i64 z] 29)).heap.size ((w.alloc (.cells #[.int .i64 a, .int .i64 b, .int .i64 c] 27)).alloc (.cells #[.int .i64 k, .int .i64 x, .int .i64 y, .int .i64 z] 29))
  cases h1 : planB a b c
  · skip
    rw [show callB a b c ⟨k, x, y, z⟩ = false by simp [callB, h1]]
    go_enter Try.func8, Try.ntmps8
    go_wp2_with (first
      | (go_at_call 17; refine (right_any _ _ _ _).mono ?_; rintro e w1 ⟨rfl, hb⟩; replace kk := kk.trans (hb.mono kk.size); clear hb; (try clear hc hf); obtain ⟨hc, hf⟩ := bcell kk)
      | (go_at_call 18; refine (rightInC_four _ _ _ _ _ _ _ _).mono ?_; rintro e w1 ⟨rfl, hb⟩; replace kk := kk.trans (hb.mono kk.size); clear hb; (try clear hc hf); obtain ⟨hc, hf⟩ := bcell kk))
    go_ret
    exact ⟨ret_bool' (by simp), k0.trans (kk.mono k0.size)⟩
  rw [← im_named h1]
  go_enter Try.func8, Try.ntmps8
  go_wp2_with (first
    | (go_at_call 17; refine (right_any _ _ _ _).mono ?_; rintro e w1 ⟨rfl, hb⟩; replace kk := kk.trans (hb.mono kk.size); clear hb; (try clear hc hf); obtain ⟨hc, hf⟩ := bcell kk)
    | (go_at_call 18; refine (rightInC_four _ _ _ _ _ _ _ _).mono ?_; rintro e w1 ⟨rfl, hb⟩; replace kk := kk.trans (hb.mono kk.size); clear hb; (try clear hc hf); obtain ⟨hc, hf⟩ := bcell kk))
  go_ret
  exact ⟨ret_bool' (by simp), k0.trans (kk.mono k0.size)⟩

theorem ret_int' {x y : Int} (e : x = y) : Ending.returned (.int .i64 x) = .returned (.int .i64 y) := by rw [e]

set_option maxRecDepth 100000 in
set_option maxHeartbeats 1000000 in
theorem start_any (q : Ca) (w : World) :
    Calls Try.prog 33 #[caV q] w fun e w' => e = .returned (.int .i64 (startI q.code)) ∧ Below w.heap.size w w' := by
  obtain ⟨k, x, y, z⟩ := q
  have k0 := (Below.refl w.heap.size w).alloc (Nat.le_refl _) (.cells #[.int .i64 k, .int .i64 x, .int .i64 y, .int .i64 z] 29)
  by_cases c1 : k = 1
  case pos => subst c1; go_enter Try.func33, Try.ntmps33; go_wp2; go_ret; exact ⟨ret_int' (by simp [startI]), k0⟩
  by_cases c2 : k = 2
  case pos => subst c2; go_enter Try.func33, Try.ntmps33; go_wp2; go_ret; exact ⟨ret_int' (by simp [startI]), k0⟩
  by_cases c3 : k = 3
  case pos => subst c3; go_enter Try.func33, Try.ntmps33; go_wp2; go_ret; exact ⟨ret_int' (by simp [startI]), k0⟩
  by_cases c4 : k = 4
  case pos => subst c4; go_enter Try.func33, Try.ntmps33; go_wp2; go_ret; exact ⟨ret_int' (by simp [startI]), k0⟩
  by_cases c5 : k = 5
  case pos => subst c5; go_enter Try.func33, Try.ntmps33; go_wp2; go_ret; exact ⟨ret_int' (by simp [startI]), k0⟩
  by_cases c6 : k = 6
  case pos => subst c6; go_enter Try.func33, Try.ntmps33; go_wp2; go_ret; exact ⟨ret_int' (by simp [startI]), k0⟩
  have c1b : (k == 1) = false := by simpa using c1
  have c2b : (k == 2) = false := by simpa using c2
  have c3b : (k == 3) = false := by simpa using c3
  have c4b : (k == 4) = false := by simpa using c4
  have c5b : (k == 5) = false := by simpa using c5
  have c6b : (k == 6) = false := by simpa using c6
  go_enter Try.func33, Try.ntmps33
  go_wp2
  go_ret
  exact ⟨ret_int' (by simp [startI, c1, c2, c3, c4, c5, c6]), k0⟩

set_option maxRecDepth 100000 in
set_option maxHeartbeats 2000000 in
theorem begun_any (q : Ca) (w : World) : Calls Try.prog 22 #[caV q] w fun e w' => e = .returned (hdV (askedHd q)) ∧ Below w.heap.size w w' := by
  obtain ⟨k, x, y, z⟩ := q
  have k0 := (((Below.refl w.heap.size w).alloc (Nat.le_refl _) (.cells #[.int .i64 k, .int .i64 x, .int .i64 y, .int .i64 z] 29)).alloc (by simp) (.cells #[.int .i64 0, .int .i64 0, .int .i64 0, .int .i64 0, .int .i64 0, .int .i64 0, .int .i64 0, .bool false, .int .i64 0, .int .i64 0, .int .i64 0, .int .i64 0] 35))
  have hC := alloc_block (.cells #[.int .i64 0, .int .i64 0, .int .i64 0, .int .i64 0, .int .i64 0, .int .i64 0, .int .i64 0, .bool false, .int .i64 0, .int .i64 0, .int .i64 0, .int .i64 0] 35) (heap_alloc_new w (.cells #[.int .i64 k, .int .i64 x, .int .i64 y, .int .i64 z] 29))
  have hR := heap_alloc_new (w.alloc (.cells #[.int .i64 k, .int .i64 x, .int .i64 y, .int .i64 z] 29)) (.cells #[.int .i64 0, .int .i64 0, .int .i64 0, .int .i64 0, .int .i64 0, .int .i64 0, .int .i64 0, .bool false, .int .i64 0, .int .i64 0, .int .i64 0, .int .i64 0] 35)
  rw [show (w.alloc (.cells #[.int .i64 k, .int .i64 x, .int .i64 y, .int .i64 z] 29)).heap.size = w.heap.size + 1 by simp] at hR
  go_enter Try.func22, Try.ntmps22
  go_wp2_with fail
  go_at_call 32; refine (imNewHand_any _).mono ?_; rintro e w1 ⟨rfl, hb⟩
  replace hC := b_block hb hC (lt_of_block hC)
  replace hR := b_block hb hR (lt_of_block hR)
  have kw := k0.trans (hb.mono k0.size)
  have hR0 := hR
  clear hb k0
  go_wp2_with fail
  have hH := heap_alloc_new w1 (.cells #[.int .i64 newHd.pos, .int .i64 newHd.call.code, .int .i64 newHd.call.a, .int .i64 newHd.call.b, .int .i64 newHd.call.c, .int .i64 newHd.tim, .int .i64 newHd.whe, .bool newHd.had, .int .i64 newHd.cnt, .int .i64 newHd.beg, .int .i64 newHd.rep, .int .i64 newHd.out] 35)
  replace hC := alloc_block (.cells #[.int .i64 newHd.pos, .int .i64 newHd.call.code, .int .i64 newHd.call.a, .int .i64 newHd.call.b, .int .i64 newHd.call.c, .int .i64 newHd.tim, .int .i64 newHd.whe, .bool newHd.had, .int .i64 newHd.cnt, .int .i64 newHd.beg, .int .i64 newHd.rep, .int .i64 newHd.out] 35) hC
  replace hR := alloc_block (.cells #[.int .i64 newHd.pos, .int .i64 newHd.call.code, .int .i64 newHd.call.a, .int .i64 newHd.call.b, .int .i64 newHd.call.c, .int .i64 newHd.tim, .int .i64 newHd.whe, .bool newHd.had, .int .i64 newHd.cnt, .int .i64 newHd.beg, .int .i64 newHd.rep, .int .i64 newHd.out] 35) hR
  have hle := kw.size
  replace kw := kw.alloc kw.size (.cells #[.int .i64 newHd.pos, .int .i64 newHd.call.code, .int .i64 newHd.call.a, .int .i64 newHd.call.b, .int .i64 newHd.call.c, .int .i64 newHd.tim, .int .i64 newHd.whe, .bool newHd.had, .int .i64 newHd.cnt, .int .i64 newHd.beg, .int .i64 newHd.rep, .int .i64 newHd.out] 35)
  have hlt := lt_of_block hR
  have hlh := lt_of_block hH
  generalize hB : w1.heap.size = B at hH hle hlh ⊢
  have hz : w.heap.size + 1 < B := by have := lt_of_block hR0; omega
  generalize hw2 : w1.alloc (.cells #[.int .i64 newHd.pos, .int .i64 newHd.call.code, .int .i64 newHd.call.a, .int .i64 newHd.call.b, .int .i64 newHd.call.c, .int .i64 newHd.tim, .int .i64 newHd.whe, .bool newHd.had, .int .i64 newHd.cnt, .int .i64 newHd.beg, .int .i64 newHd.rep, .int .i64 newHd.out] 35) = w2 at hC hR hH kw hlt hlh ⊢
  clear hw2 hB hR0
  have cH0 : w2.cell? ⟨B, 0, none⟩ = some (.int .i64 newHd.pos) := cell_of_block hH 0
  have fH0 : w2.frozen? ⟨B, 0, none⟩ = false := unfrozen_of_block hH 0
  have cH1 : w2.cell? ⟨B, 1, none⟩ = some (.int .i64 newHd.call.code) := cell_of_block hH 1
  have fH1 : w2.frozen? ⟨B, 1, none⟩ = false := unfrozen_of_block hH 1
  have cH2 : w2.cell? ⟨B, 2, none⟩ = some (.int .i64 newHd.call.a) := cell_of_block hH 2
  have fH2 : w2.frozen? ⟨B, 2, none⟩ = false := unfrozen_of_block hH 2
  have cH3 : w2.cell? ⟨B, 3, none⟩ = some (.int .i64 newHd.call.b) := cell_of_block hH 3
  have fH3 : w2.frozen? ⟨B, 3, none⟩ = false := unfrozen_of_block hH 3
  have cH4 : w2.cell? ⟨B, 4, none⟩ = some (.int .i64 newHd.call.c) := cell_of_block hH 4
  have fH4 : w2.frozen? ⟨B, 4, none⟩ = false := unfrozen_of_block hH 4
  have cH5 : w2.cell? ⟨B, 5, none⟩ = some (.int .i64 newHd.tim) := cell_of_block hH 5
  have fH5 : w2.frozen? ⟨B, 5, none⟩ = false := unfrozen_of_block hH 5
  have cH6 : w2.cell? ⟨B, 6, none⟩ = some (.int .i64 newHd.whe) := cell_of_block hH 6
  have fH6 : w2.frozen? ⟨B, 6, none⟩ = false := unfrozen_of_block hH 6
  have cH7 : w2.cell? ⟨B, 7, none⟩ = some (.bool newHd.had) := cell_of_block hH 7
  have fH7 : w2.frozen? ⟨B, 7, none⟩ = false := unfrozen_of_block hH 7
  have cH8 : w2.cell? ⟨B, 8, none⟩ = some (.int .i64 newHd.cnt) := cell_of_block hH 8
  have fH8 : w2.frozen? ⟨B, 8, none⟩ = false := unfrozen_of_block hH 8
  have cH9 : w2.cell? ⟨B, 9, none⟩ = some (.int .i64 newHd.beg) := cell_of_block hH 9
  have fH9 : w2.frozen? ⟨B, 9, none⟩ = false := unfrozen_of_block hH 9
  have cH10 : w2.cell? ⟨B, 10, none⟩ = some (.int .i64 newHd.rep) := cell_of_block hH 10
  have fH10 : w2.frozen? ⟨B, 10, none⟩ = false := unfrozen_of_block hH 10
  have cH11 : w2.cell? ⟨B, 11, none⟩ = some (.int .i64 newHd.out) := cell_of_block hH 11
  have fH11 : w2.frozen? ⟨B, 11, none⟩ = false := unfrozen_of_block hH 11
  have cC0 : w2.cell? ⟨w.heap.size, 0, none⟩ = some (.int .i64 k) := cell_of_block hC 0
  have cC1 : w2.cell? ⟨w.heap.size, 1, none⟩ = some (.int .i64 x) := cell_of_block hC 1
  have cC2 : w2.cell? ⟨w.heap.size, 2, none⟩ = some (.int .i64 y) := cell_of_block hC 2
  have cC3 : w2.cell? ⟨w.heap.size, 3, none⟩ = some (.int .i64 z) := cell_of_block hC 3
  have hz1 : w.heap.size + 1 + 1 ≤ B := by omega
  have l0 : w.heap.size < w2.heap.size := by omega
  have l1 : w.heap.size < w.heap.size + 1 + 1 := by omega
  have yC0 := Lib.hid cC0
  have yC1 := Lib.hid cC1
  have yC2 := Lib.hid cC2
  have yC3 := Lib.hid cC3
  have kk := (Below.refl w2.heap.size w2).drew
  go_region_held3 (fun w' => w'.cell? ⟨w.heap.size, 0, none⟩ = some (.int .i64 k) ∧ w'.cell? ⟨w.heap.size, 1, none⟩ = some (.int .i64 x) ∧ w'.cell? ⟨w.heap.size, 2, none⟩ = some (.int .i64 y) ∧ w'.cell? ⟨w.heap.size, 3, none⟩ = some (.int .i64 z))
    (first | with_reducible exact ⟨(kk.cell (p := ⟨w.heap.size, 0, none⟩) l0).trans yC0.out, (kk.cell (p := ⟨w.heap.size, 1, none⟩) l0).trans yC1.out, (kk.cell (p := ⟨w.heap.size, 2, none⟩) l0).trans yC2.out, (kk.cell (p := ⟨w.heap.size, 3, none⟩) l0).trans yC3.out⟩ | with_reducible exact ⟨(ks0.cell (p := ⟨w.heap.size, 0, none⟩) l1).trans yC0.out, (ks0.cell (p := ⟨w.heap.size, 1, none⟩) l1).trans yC1.out, (ks0.cell (p := ⟨w.heap.size, 2, none⟩) l1).trans yC2.out, (ks0.cell (p := ⟨w.heap.size, 3, none⟩) l1).trans yC3.out⟩ | with_reducible exact ⟨(ks4.cell (p := ⟨w.heap.size, 0, none⟩) l1).trans yC0.out, (ks4.cell (p := ⟨w.heap.size, 1, none⟩) l1).trans yC1.out, (ks4.cell (p := ⟨w.heap.size, 2, none⟩) l1).trans yC2.out, (ks4.cell (p := ⟨w.heap.size, 3, none⟩) l1).trans yC3.out⟩ )
    (first
      | (go_at_call 33; refine (start_any ⟨k, x, y, z⟩ _).mono ?_; rintro e wp ⟨rfl, hb⟩; replace kk := kk.trans (hb.mono kk.size); have hH3 := b_block kk hH hlh; have kl := kk.size; have kn := kk.mono (show w.heap.size + 1 + 1 ≤ w2.heap.size by omega); have ks0 := kn.setCell (p := ⟨B, 0, none⟩) hz1 (.int .i64 (startI k)); have ks4 := (((ks0.setCell (p := ⟨B, 1, none⟩) hz1 (.int .i64 k)).setCell (p := ⟨B, 2, none⟩) hz1 (.int .i64 x)).setCell (p := ⟨B, 3, none⟩) hz1 (.int .i64 y)).setCell (p := ⟨B, 4, none⟩) hz1 (.int .i64 z); obtain ⟨gc0, gc1, gc2, gc3, gc4, _, _, _, _, _, _, _, gf0, gf1, gf2, gf3, gf4, _⟩ := twelve hH3; clear hb))
  all_goals
    have hH5 := (block_setCell (i := 4) (block_setCell (i := 3) (block_setCell (i := 2) (block_setCell (i := 1) (block_setCell (i := 0) hH3 (.int .i64 (startI k))) (.int .i64 k)) (.int .i64 x)) (.int .i64 y)) (.int .i64 z))
    simp only [List.setIfInBounds_toArray, List.set_cons_zero, List.set_cons_succ] at hH5
    have hR5 := b_block ks4 hR (by omega)
    have kw5 := kw.trans (ks4.mono (by have := kw.size; omega))
    generalize hw5 : (((((wp.setCell ⟨B, 0, none⟩ (.int .i64 (startI k))).setCell ⟨B, 1, none⟩ (.int .i64 k)).setCell ⟨B, 2, none⟩ (.int .i64 x)).setCell ⟨B, 3, none⟩ (.int .i64 y)).setCell ⟨B, 4, none⟩ (.int .i64 z)) = w5 at hH5 hR5 kw5 ⊢
    clear hw5 ks4 ks0 kn kk cH0
    obtain ⟨r0, r1, r2, r3, r4, r5, r6, r7, r8, r9, r10, r11, _, _, _, _, _, _, _, _, _, _, _, _⟩ := twelve hH5
    obtain ⟨t0, t1, t2, t3, t4, t5, t6, t7, t8, t9, t10, t11, s0, s1, s2, s3, s4, s5, s6, s7, s8, s9, s10, s11⟩ := twelve hR5
    go_wp2
    have r0 := set_hand (h := ⟨startI k, ⟨k, x, y, z⟩, newHd.tim, newHd.whe, newHd.had, newHd.cnt, newHd.beg, newHd.rep, newHd.out⟩) hR5
    have hb := b_set_hand (B := w.heap.size + 1) (h := ⟨startI k, ⟨k, x, y, z⟩, newHd.tim, newHd.whe, newHd.had, newHd.cnt, newHd.beg, newHd.rep, newHd.out⟩) kw5 (by omega)
    dsimp only at r0 hb
    have hq := r0
    clear r0 t0 s0 r1 t1 s1 r2 t2 s2 r3 t3 s3 r4 t4 s4 r5 t5 s5 r6 t6 s6 r7 t7 s7 r8 t8 s8 r9 t9 s9 r10 t10 s10 r11 t11 s11
    obtain ⟨r0, r1, r2, r3, r4, r5, r6, r7, r8, r9, r10, r11, _⟩ := twelve hq
    exact bodyPost_ret (v := hdV ⟨startI k, ⟨k, x, y, z⟩, newHd.tim, newHd.whe, newHd.had, newHd.cnt, newHd.beg, newHd.rep, newHd.out⟩) (by simp [results, Try.results22, go_sem, r0, r1, r2, r3, r4, r5, r6, r7, r8, r9, r10, r11]) rfl ⟨rfl, hb⟩

set_option maxRecDepth 100000 in
set_option maxHeartbeats 8000000 in
theorem imCalled_any (a b c : Int) (h : Hd) (q : Ca) (w : World) :
    Calls Try.prog 11 #[.agg #[.int .i64 a, .int .i64 b, .int .i64 c], hdV h, caV q] w fun e w' => e = .returned (.tuple #[hdV (calledH a b c h q), .int .i64 (calledI a b c h q)]) ∧ Below w.heap.size w w' := by
  have k0 := (((((Below.refl w.heap.size w).alloc (Nat.le_refl _) (.cells #[.int .i64 a, .int .i64 b, .int .i64 c] 27)).alloc (by simp <;> omega) (.cells #[.int .i64 h.pos, .int .i64 h.call.code, .int .i64 h.call.a, .int .i64 h.call.b, .int .i64 h.call.c, .int .i64 h.tim, .int .i64 h.whe, .bool h.had, .int .i64 h.cnt, .int .i64 h.beg, .int .i64 h.rep, .int .i64 h.out] 35)).alloc (by simp <;> omega) (.cells #[.int .i64 q.code, .int .i64 q.a, .int .i64 q.b, .int .i64 q.c] 29)).alloc (by simp <;> omega) (.cells #[.int .i64 0, .int .i64 0, .int .i64 0, .int .i64 0, .int .i64 0, .int .i64 0, .int .i64 0, .bool false, .int .i64 0, .int .i64 0, .int .i64 0, .int .i64 0] 35))
  have hP := heap_alloc_new w (.cells #[.int .i64 a, .int .i64 b, .int .i64 c] 27)
  replace hP := alloc_block (.cells #[.int .i64 h.pos, .int .i64 h.call.code, .int .i64 h.call.a, .int .i64 h.call.b, .int .i64 h.call.c, .int .i64 h.tim, .int .i64 h.whe, .bool h.had, .int .i64 h.cnt, .int .i64 h.beg, .int .i64 h.rep, .int .i64 h.out] 35) hP
  replace hP := alloc_block (.cells #[.int .i64 q.code, .int .i64 q.a, .int .i64 q.b, .int .i64 q.c] 29) hP
  replace hP := alloc_block (.cells #[.int .i64 0, .int .i64 0, .int .i64 0, .int .i64 0, .int .i64 0, .int .i64 0, .int .i64 0, .bool false, .int .i64 0, .int .i64 0, .int .i64 0, .int .i64 0] 35) hP
  have hH := heap_alloc_new (w.alloc (.cells #[.int .i64 a, .int .i64 b, .int .i64 c] 27)) (.cells #[.int .i64 h.pos, .int .i64 h.call.code, .int .i64 h.call.a, .int .i64 h.call.b, .int .i64 h.call.c, .int .i64 h.tim, .int .i64 h.whe, .bool h.had, .int .i64 h.cnt, .int .i64 h.beg, .int .i64 h.rep, .int .i64 h.out] 35)
  rw [show (w.alloc (.cells #[.int .i64 a, .int .i64 b, .int .i64 c] 27)).heap.size = w.heap.size + 1 by simp] at hH
  replace hH := alloc_block (.cells #[.int .i64 q.code, .int .i64 q.a, .int .i64 q.b, .int .i64 q.c] 29) hH
  replace hH := alloc_block (.cells #[.int .i64 0, .int .i64 0, .int .i64 0, .int .i64 0, .int .i64 0, .int .i64 0, .int .i64 0, .bool false, .int .i64 0, .int .i64 0, .int .i64 0, .int .i64 0] 35) hH
  have hC := heap_alloc_new ((w.alloc (.cells #[.int .i64 a, .int .i64 b, .int .i64 c] 27)).alloc (.cells #[.int .i64 h.pos, .int .i64 h.call.code, .int .i64 h.call.a, .int .i64 h.call.b, .int .i64 h.call.c, .int .i64 h.tim, .int .i64 h.whe, .bool h.had, .int .i64 h.cnt, .int .i64 h.beg, .int .i64 h.rep, .int .i64 h.out] 35)) (.cells #[.int .i64 q.code, .int .i64 q.a, .int .i64 q.b, .int .i64 q.c] 29)
  rw [show ((w.alloc (.cells #[.int .i64 a, .int .i64 b, .int .i64 c] 27)).alloc (.cells #[.int .i64 h.pos, .int .i64 h.call.code, .int .i64 h.call.a, .int .i64 h.call.b, .int .i64 h.call.c, .int .i64 h.tim, .int .i64 h.whe, .bool h.had, .int .i64 h.cnt, .int .i64 h.beg, .int .i64 h.rep, .int .i64 h.out] 35)).heap.size = w.heap.size + 1 + 1 by simp] at hC
  replace hC := alloc_block (.cells #[.int .i64 0, .int .i64 0, .int .i64 0, .int .i64 0, .int .i64 0, .int .i64 0, .int .i64 0, .bool false, .int .i64 0, .int .i64 0, .int .i64 0, .int .i64 0] 35) hC
  have hR := heap_alloc_new (((w.alloc (.cells #[.int .i64 a, .int .i64 b, .int .i64 c] 27)).alloc (.cells #[.int .i64 h.pos, .int .i64 h.call.code, .int .i64 h.call.a, .int .i64 h.call.b, .int .i64 h.call.c, .int .i64 h.tim, .int .i64 h.whe, .bool h.had, .int .i64 h.cnt, .int .i64 h.beg, .int .i64 h.rep, .int .i64 h.out] 35)).alloc (.cells #[.int .i64 q.code, .int .i64 q.a, .int .i64 q.b, .int .i64 q.c] 29)) (.cells #[.int .i64 0, .int .i64 0, .int .i64 0, .int .i64 0, .int .i64 0, .int .i64 0, .int .i64 0, .bool false, .int .i64 0, .int .i64 0, .int .i64 0, .int .i64 0] 35)
  rw [show (((w.alloc (.cells #[.int .i64 a, .int .i64 b, .int .i64 c] 27)).alloc (.cells #[.int .i64 h.pos, .int .i64 h.call.code, .int .i64 h.call.a, .int .i64 h.call.b, .int .i64 h.call.c, .int .i64 h.tim, .int .i64 h.whe, .bool h.had, .int .i64 h.cnt, .int .i64 h.beg, .int .i64 h.rep, .int .i64 h.out] 35)).alloc (.cells #[.int .i64 q.code, .int .i64 q.a, .int .i64 q.b, .int .i64 q.c] 29)).heap.size = w.heap.size + 1 + 1 + 1 by simp] at hR
  have kk := Below.refl ((((w.alloc (.cells #[.int .i64 a, .int .i64 b, .int .i64 c] 27)).alloc (.cells #[.int .i64 h.pos, .int .i64 h.call.code, .int .i64 h.call.a, .int .i64 h.call.b, .int .i64 h.call.c, .int .i64 h.tim, .int .i64 h.whe, .bool h.had, .int .i64 h.cnt, .int .i64 h.beg, .int .i64 h.rep, .int .i64 h.out] 35)).alloc (.cells #[.int .i64 q.code, .int .i64 q.a, .int .i64 q.b, .int .i64 q.c] 29)).alloc (.cells #[.int .i64 0, .int .i64 0, .int .i64 0, .int .i64 0, .int .i64 0, .int .i64 0, .int .i64 0, .bool false, .int .i64 0, .int .i64 0, .int .i64 0, .int .i64 0] 35)).heap.size ((((w.alloc (.cells #[.int .i64 a, .int .i64 b, .int .i64 c] 27)).alloc (.cells #[.int .i64 h.pos, .int .i64 h.call.code, .int .i64 h.call.a, .int .i64 h.call.b, .int .i64 h.call.c, .int .i64 h.tim, .int .i64 h.whe, .bool h.had, .int .i64 h.cnt, .int .i64 h.beg, .int .i64 h.rep, .int .i64 h.out] 35)).alloc (.cells #[.int .i64 q.code, .int .i64 q.a, .int .i64 q.b, .int .i64 q.c] 29)).alloc (.cells #[.int .i64 0, .int .i64 0, .int .i64 0, .int .i64 0, .int .i64 0, .int .i64 0, .int .i64 0, .bool false, .int .i64 0, .int .i64 0, .int .i64 0, .int .i64 0] 35))
  go_enter Try.func11, Try.ntmps11
  go_wp2_with fail
  go_at_call 21; refine (imHandOk_any _ _ _ _ _).mono ?_; rintro e w1 ⟨rfl, hb⟩; replace kk := kk.trans (hb.mono kk.size)
  replace hP := b_block hb hP (lt_of_block hP)
  replace hH := b_block hb hH (lt_of_block hH)
  replace hC := b_block hb hC (lt_of_block hC)
  replace hR := b_block hb hR (lt_of_block hR)
  have kw := k0.trans (kk.mono k0.size)
  clear hb k0 kk
  cases h1 : handB a b c h
  · have E1 := Lib.hid (show calledH a b c h q = hd0 by simp [calledH, h1])
    have E2 := Lib.hid (show calledI a b c h q = 3 by simp [calledI, h1])
    have cP0 : w1.cell? ⟨w.heap.size, 0, none⟩ = some (.int .i64 a) := cell_of_block hP 0
    have cP1 : w1.cell? ⟨w.heap.size, 1, none⟩ = some (.int .i64 b) := cell_of_block hP 1
    have cP2 : w1.cell? ⟨w.heap.size, 2, none⟩ = some (.int .i64 c) := cell_of_block hP 2
    have cH0 : w1.cell? ⟨w.heap.size + 1, 0, none⟩ = some (.int .i64 h.pos) := cell_of_block hH 0
    have cH1 : w1.cell? ⟨w.heap.size + 1, 1, none⟩ = some (.int .i64 h.call.code) := cell_of_block hH 1
    have cH2 : w1.cell? ⟨w.heap.size + 1, 2, none⟩ = some (.int .i64 h.call.a) := cell_of_block hH 2
    have cH3 : w1.cell? ⟨w.heap.size + 1, 3, none⟩ = some (.int .i64 h.call.b) := cell_of_block hH 3
    have cH4 : w1.cell? ⟨w.heap.size + 1, 4, none⟩ = some (.int .i64 h.call.c) := cell_of_block hH 4
    have cH5 : w1.cell? ⟨w.heap.size + 1, 5, none⟩ = some (.int .i64 h.tim) := cell_of_block hH 5
    have cH6 : w1.cell? ⟨w.heap.size + 1, 6, none⟩ = some (.int .i64 h.whe) := cell_of_block hH 6
    have cH7 : w1.cell? ⟨w.heap.size + 1, 7, none⟩ = some (.bool h.had) := cell_of_block hH 7
    have cH8 : w1.cell? ⟨w.heap.size + 1, 8, none⟩ = some (.int .i64 h.cnt) := cell_of_block hH 8
    have cH9 : w1.cell? ⟨w.heap.size + 1, 9, none⟩ = some (.int .i64 h.beg) := cell_of_block hH 9
    have cH10 : w1.cell? ⟨w.heap.size + 1, 10, none⟩ = some (.int .i64 h.rep) := cell_of_block hH 10
    have cH11 : w1.cell? ⟨w.heap.size + 1, 11, none⟩ = some (.int .i64 h.out) := cell_of_block hH 11
    have cC0 : w1.cell? ⟨w.heap.size + 1 + 1, 0, none⟩ = some (.int .i64 q.code) := cell_of_block hC 0
    have cC1 : w1.cell? ⟨w.heap.size + 1 + 1, 1, none⟩ = some (.int .i64 q.a) := cell_of_block hC 1
    have cC2 : w1.cell? ⟨w.heap.size + 1 + 1, 2, none⟩ = some (.int .i64 q.b) := cell_of_block hC 2
    have cC3 : w1.cell? ⟨w.heap.size + 1 + 1, 3, none⟩ = some (.int .i64 q.c) := cell_of_block hC 3
    have cR0 : w1.cell? ⟨w.heap.size + 1 + 1 + 1, 0, none⟩ = some (.int .i64 0) := cell_of_block hR 0
    have fR0 : w1.frozen? ⟨w.heap.size + 1 + 1 + 1, 0, none⟩ = false := unfrozen_of_block hR 0
    have cR1 : w1.cell? ⟨w.heap.size + 1 + 1 + 1, 1, none⟩ = some (.int .i64 0) := cell_of_block hR 1
    have fR1 : w1.frozen? ⟨w.heap.size + 1 + 1 + 1, 1, none⟩ = false := unfrozen_of_block hR 1
    have cR2 : w1.cell? ⟨w.heap.size + 1 + 1 + 1, 2, none⟩ = some (.int .i64 0) := cell_of_block hR 2
    have fR2 : w1.frozen? ⟨w.heap.size + 1 + 1 + 1, 2, none⟩ = false := unfrozen_of_block hR 2
    have cR3 : w1.cell? ⟨w.heap.size + 1 + 1 + 1, 3, none⟩ = some (.int .i64 0) := cell_of_block hR 3
    have fR3 : w1.frozen? ⟨w.heap.size + 1 + 1 + 1, 3, none⟩ = false := unfrozen_of_block hR 3
    have cR4 : w1.cell? ⟨w.heap.size + 1 + 1 + 1, 4, none⟩ = some (.int .i64 0) := cell_of_block hR 4
    have fR4 : w1.frozen? ⟨w.heap.size + 1 + 1 + 1, 4, none⟩ = false := unfrozen_of_block hR 4
    have cR5 : w1.cell? ⟨w.heap.size + 1 + 1 + 1, 5, none⟩ = some (.int .i64 0) := cell_of_block hR 5
    have fR5 : w1.frozen? ⟨w.heap.size + 1 + 1 + 1, 5, none⟩ = false := unfrozen_of_block hR 5
    have cR6 : w1.cell? ⟨w.heap.size + 1 + 1 + 1, 6, none⟩ = some (.int .i64 0) := cell_of_block hR 6
    have fR6 : w1.frozen? ⟨w.heap.size + 1 + 1 + 1, 6, none⟩ = false := unfrozen_of_block hR 6
    have cR7 : w1.cell? ⟨w.heap.size + 1 + 1 + 1, 7, none⟩ = some (.bool false) := cell_of_block hR 7
    have fR7 : w1.frozen? ⟨w.heap.size + 1 + 1 + 1, 7, none⟩ = false := unfrozen_of_block hR 7
    have cR8 : w1.cell? ⟨w.heap.size + 1 + 1 + 1, 8, none⟩ = some (.int .i64 0) := cell_of_block hR 8
    have fR8 : w1.frozen? ⟨w.heap.size + 1 + 1 + 1, 8, none⟩ = false := unfrozen_of_block hR 8
    have cR9 : w1.cell? ⟨w.heap.size + 1 + 1 + 1, 9, none⟩ = some (.int .i64 0) := cell_of_block hR 9
    have fR9 : w1.frozen? ⟨w.heap.size + 1 + 1 + 1, 9, none⟩ = false := unfrozen_of_block hR 9
    have cR10 : w1.cell? ⟨w.heap.size + 1 + 1 + 1, 10, none⟩ = some (.int .i64 0) := cell_of_block hR 10
    have fR10 : w1.frozen? ⟨w.heap.size + 1 + 1 + 1, 10, none⟩ = false := unfrozen_of_block hR 10
    have cR11 : w1.cell? ⟨w.heap.size + 1 + 1 + 1, 11, none⟩ = some (.int .i64 0) := cell_of_block hR 11
    have fR11 : w1.frozen? ⟨w.heap.size + 1 + 1 + 1, 11, none⟩ = false := unfrozen_of_block hR 11
    go_wp2
    have r0 := set_hand (h := ⟨0, ⟨0, 0, 0, 0⟩, 0, 0, false, 0, 0, 0, 0⟩) hR
    have hb := b_set_hand (n := w.heap.size) (B := w.heap.size + 1 + 1 + 1) (h := ⟨0, ⟨0, 0, 0, 0⟩, 0, 0, false, 0, 0, 0, 0⟩) kw (by omega)
    dsimp only at r0 hb
    have hq := r0
    clear r0
    have r0 := cell_of_block hq 0
    have r1 := cell_of_block hq 1
    have r2 := cell_of_block hq 2
    have r3 := cell_of_block hq 3
    have r4 := cell_of_block hq 4
    have r5 := cell_of_block hq 5
    have r6 := cell_of_block hq 6
    have r7 := cell_of_block hq 7
    have r8 := cell_of_block hq 8
    have r9 := cell_of_block hq 9
    have r10 := cell_of_block hq 10
    have r11 := cell_of_block hq 11
    exact bodyPost_ret (v := .tuple #[hdV ⟨0, ⟨0, 0, 0, 0⟩, 0, 0, false, 0, 0, 0, 0⟩, .int .i64 3]) (by simp [results, Try.results11, go_sem, r0, r1, r2, r3, r4, r5, r6, r7, r8, r9, r10, r11]) rfl ⟨ret_hi E1.out E2.out, hb⟩
  by_cases h2 : h.pos = 0
  case neg =>
    have E1 := Lib.hid (show calledH a b c h q = h by simp [calledH, h1, h2])
    have E2 := Lib.hid (show calledI a b c h q = 1 by simp [calledI, h1, h2])
    have h2b : (h.pos == 0) = false := by simpa using h2
    have h2c : (h.pos != 0) = true := by simpa using h2
    have cP0 : w1.cell? ⟨w.heap.size, 0, none⟩ = some (.int .i64 a) := cell_of_block hP 0
    have cP1 : w1.cell? ⟨w.heap.size, 1, none⟩ = some (.int .i64 b) := cell_of_block hP 1
    have cP2 : w1.cell? ⟨w.heap.size, 2, none⟩ = some (.int .i64 c) := cell_of_block hP 2
    have cH0 : w1.cell? ⟨w.heap.size + 1, 0, none⟩ = some (.int .i64 h.pos) := cell_of_block hH 0
    have cH1 : w1.cell? ⟨w.heap.size + 1, 1, none⟩ = some (.int .i64 h.call.code) := cell_of_block hH 1
    have cH2 : w1.cell? ⟨w.heap.size + 1, 2, none⟩ = some (.int .i64 h.call.a) := cell_of_block hH 2
    have cH3 : w1.cell? ⟨w.heap.size + 1, 3, none⟩ = some (.int .i64 h.call.b) := cell_of_block hH 3
    have cH4 : w1.cell? ⟨w.heap.size + 1, 4, none⟩ = some (.int .i64 h.call.c) := cell_of_block hH 4
    have cH5 : w1.cell? ⟨w.heap.size + 1, 5, none⟩ = some (.int .i64 h.tim) := cell_of_block hH 5
    have cH6 : w1.cell? ⟨w.heap.size + 1, 6, none⟩ = some (.int .i64 h.whe) := cell_of_block hH 6
    have cH7 : w1.cell? ⟨w.heap.size + 1, 7, none⟩ = some (.bool h.had) := cell_of_block hH 7
    have cH8 : w1.cell? ⟨w.heap.size + 1, 8, none⟩ = some (.int .i64 h.cnt) := cell_of_block hH 8
    have cH9 : w1.cell? ⟨w.heap.size + 1, 9, none⟩ = some (.int .i64 h.beg) := cell_of_block hH 9
    have cH10 : w1.cell? ⟨w.heap.size + 1, 10, none⟩ = some (.int .i64 h.rep) := cell_of_block hH 10
    have cH11 : w1.cell? ⟨w.heap.size + 1, 11, none⟩ = some (.int .i64 h.out) := cell_of_block hH 11
    have cC0 : w1.cell? ⟨w.heap.size + 1 + 1, 0, none⟩ = some (.int .i64 q.code) := cell_of_block hC 0
    have cC1 : w1.cell? ⟨w.heap.size + 1 + 1, 1, none⟩ = some (.int .i64 q.a) := cell_of_block hC 1
    have cC2 : w1.cell? ⟨w.heap.size + 1 + 1, 2, none⟩ = some (.int .i64 q.b) := cell_of_block hC 2
    have cC3 : w1.cell? ⟨w.heap.size + 1 + 1, 3, none⟩ = some (.int .i64 q.c) := cell_of_block hC 3
    have cR0 : w1.cell? ⟨w.heap.size + 1 + 1 + 1, 0, none⟩ = some (.int .i64 0) := cell_of_block hR 0
    have fR0 : w1.frozen? ⟨w.heap.size + 1 + 1 + 1, 0, none⟩ = false := unfrozen_of_block hR 0
    have cR1 : w1.cell? ⟨w.heap.size + 1 + 1 + 1, 1, none⟩ = some (.int .i64 0) := cell_of_block hR 1
    have fR1 : w1.frozen? ⟨w.heap.size + 1 + 1 + 1, 1, none⟩ = false := unfrozen_of_block hR 1
    have cR2 : w1.cell? ⟨w.heap.size + 1 + 1 + 1, 2, none⟩ = some (.int .i64 0) := cell_of_block hR 2
    have fR2 : w1.frozen? ⟨w.heap.size + 1 + 1 + 1, 2, none⟩ = false := unfrozen_of_block hR 2
    have cR3 : w1.cell? ⟨w.heap.size + 1 + 1 + 1, 3, none⟩ = some (.int .i64 0) := cell_of_block hR 3
    have fR3 : w1.frozen? ⟨w.heap.size + 1 + 1 + 1, 3, none⟩ = false := unfrozen_of_block hR 3
    have cR4 : w1.cell? ⟨w.heap.size + 1 + 1 + 1, 4, none⟩ = some (.int .i64 0) := cell_of_block hR 4
    have fR4 : w1.frozen? ⟨w.heap.size + 1 + 1 + 1, 4, none⟩ = false := unfrozen_of_block hR 4
    have cR5 : w1.cell? ⟨w.heap.size + 1 + 1 + 1, 5, none⟩ = some (.int .i64 0) := cell_of_block hR 5
    have fR5 : w1.frozen? ⟨w.heap.size + 1 + 1 + 1, 5, none⟩ = false := unfrozen_of_block hR 5
    have cR6 : w1.cell? ⟨w.heap.size + 1 + 1 + 1, 6, none⟩ = some (.int .i64 0) := cell_of_block hR 6
    have fR6 : w1.frozen? ⟨w.heap.size + 1 + 1 + 1, 6, none⟩ = false := unfrozen_of_block hR 6
    have cR7 : w1.cell? ⟨w.heap.size + 1 + 1 + 1, 7, none⟩ = some (.bool false) := cell_of_block hR 7
    have fR7 : w1.frozen? ⟨w.heap.size + 1 + 1 + 1, 7, none⟩ = false := unfrozen_of_block hR 7
    have cR8 : w1.cell? ⟨w.heap.size + 1 + 1 + 1, 8, none⟩ = some (.int .i64 0) := cell_of_block hR 8
    have fR8 : w1.frozen? ⟨w.heap.size + 1 + 1 + 1, 8, none⟩ = false := unfrozen_of_block hR 8
    have cR9 : w1.cell? ⟨w.heap.size + 1 + 1 + 1, 9, none⟩ = some (.int .i64 0) := cell_of_block hR 9
    have fR9 : w1.frozen? ⟨w.heap.size + 1 + 1 + 1, 9, none⟩ = false := unfrozen_of_block hR 9
    have cR10 : w1.cell? ⟨w.heap.size + 1 + 1 + 1, 10, none⟩ = some (.int .i64 0) := cell_of_block hR 10
    have fR10 : w1.frozen? ⟨w.heap.size + 1 + 1 + 1, 10, none⟩ = false := unfrozen_of_block hR 10
    have cR11 : w1.cell? ⟨w.heap.size + 1 + 1 + 1, 11, none⟩ = some (.int .i64 0) := cell_of_block hR 11
    have fR11 : w1.frozen? ⟨w.heap.size + 1 + 1 + 1, 11, none⟩ = false := unfrozen_of_block hR 11
    go_wp2
    have r0 := set_hand (h := h) hR
    have hb := b_set_hand (n := w.heap.size) (B := w.heap.size + 1 + 1 + 1) (h := h) kw (by omega)
    have hq := r0
    clear r0
    have r0 := cell_of_block hq 0
    have r1 := cell_of_block hq 1
    have r2 := cell_of_block hq 2
    have r3 := cell_of_block hq 3
    have r4 := cell_of_block hq 4
    have r5 := cell_of_block hq 5
    have r6 := cell_of_block hq 6
    have r7 := cell_of_block hq 7
    have r8 := cell_of_block hq 8
    have r9 := cell_of_block hq 9
    have r10 := cell_of_block hq 10
    have r11 := cell_of_block hq 11
    exact bodyPost_ret (v := .tuple #[hdV h, .int .i64 1]) (by simp [results, Try.results11, go_sem, r0, r1, r2, r3, r4, r5, r6, r7, r8, r9, r10, r11]) rfl ⟨ret_hi E1.out E2.out, hb⟩
  have h2b : (h.pos == 0) = true := by simpa using h2
  have h2c : (h.pos != 0) = false := by simpa using h2
  have H2 := Lib.hid h2
  clear h2
  have cP0 : w1.cell? ⟨w.heap.size, 0, none⟩ = some (.int .i64 a) := cell_of_block hP 0
  have cP1 : w1.cell? ⟨w.heap.size, 1, none⟩ = some (.int .i64 b) := cell_of_block hP 1
  have cP2 : w1.cell? ⟨w.heap.size, 2, none⟩ = some (.int .i64 c) := cell_of_block hP 2
  have cH0 : w1.cell? ⟨w.heap.size + 1, 0, none⟩ = some (.int .i64 h.pos) := cell_of_block hH 0
  have cH1 : w1.cell? ⟨w.heap.size + 1, 1, none⟩ = some (.int .i64 h.call.code) := cell_of_block hH 1
  have cH2 : w1.cell? ⟨w.heap.size + 1, 2, none⟩ = some (.int .i64 h.call.a) := cell_of_block hH 2
  have cH3 : w1.cell? ⟨w.heap.size + 1, 3, none⟩ = some (.int .i64 h.call.b) := cell_of_block hH 3
  have cH4 : w1.cell? ⟨w.heap.size + 1, 4, none⟩ = some (.int .i64 h.call.c) := cell_of_block hH 4
  have cH5 : w1.cell? ⟨w.heap.size + 1, 5, none⟩ = some (.int .i64 h.tim) := cell_of_block hH 5
  have cH6 : w1.cell? ⟨w.heap.size + 1, 6, none⟩ = some (.int .i64 h.whe) := cell_of_block hH 6
  have cH7 : w1.cell? ⟨w.heap.size + 1, 7, none⟩ = some (.bool h.had) := cell_of_block hH 7
  have cH8 : w1.cell? ⟨w.heap.size + 1, 8, none⟩ = some (.int .i64 h.cnt) := cell_of_block hH 8
  have cH9 : w1.cell? ⟨w.heap.size + 1, 9, none⟩ = some (.int .i64 h.beg) := cell_of_block hH 9
  have cH10 : w1.cell? ⟨w.heap.size + 1, 10, none⟩ = some (.int .i64 h.rep) := cell_of_block hH 10
  have cH11 : w1.cell? ⟨w.heap.size + 1, 11, none⟩ = some (.int .i64 h.out) := cell_of_block hH 11
  have cC0 : w1.cell? ⟨w.heap.size + 1 + 1, 0, none⟩ = some (.int .i64 q.code) := cell_of_block hC 0
  have cC1 : w1.cell? ⟨w.heap.size + 1 + 1, 1, none⟩ = some (.int .i64 q.a) := cell_of_block hC 1
  have cC2 : w1.cell? ⟨w.heap.size + 1 + 1, 2, none⟩ = some (.int .i64 q.b) := cell_of_block hC 2
  have cC3 : w1.cell? ⟨w.heap.size + 1 + 1, 3, none⟩ = some (.int .i64 q.c) := cell_of_block hC 3
  have cR0 : w1.cell? ⟨w.heap.size + 1 + 1 + 1, 0, none⟩ = some (.int .i64 0) := cell_of_block hR 0
  have fR0 : w1.frozen? ⟨w.heap.size + 1 + 1 + 1, 0, none⟩ = false := unfrozen_of_block hR 0
  have cR1 : w1.cell? ⟨w.heap.size + 1 + 1 + 1, 1, none⟩ = some (.int .i64 0) := cell_of_block hR 1
  have fR1 : w1.frozen? ⟨w.heap.size + 1 + 1 + 1, 1, none⟩ = false := unfrozen_of_block hR 1
  have cR2 : w1.cell? ⟨w.heap.size + 1 + 1 + 1, 2, none⟩ = some (.int .i64 0) := cell_of_block hR 2
  have fR2 : w1.frozen? ⟨w.heap.size + 1 + 1 + 1, 2, none⟩ = false := unfrozen_of_block hR 2
  have cR3 : w1.cell? ⟨w.heap.size + 1 + 1 + 1, 3, none⟩ = some (.int .i64 0) := cell_of_block hR 3
  have fR3 : w1.frozen? ⟨w.heap.size + 1 + 1 + 1, 3, none⟩ = false := unfrozen_of_block hR 3
  have cR4 : w1.cell? ⟨w.heap.size + 1 + 1 + 1, 4, none⟩ = some (.int .i64 0) := cell_of_block hR 4
  have fR4 : w1.frozen? ⟨w.heap.size + 1 + 1 + 1, 4, none⟩ = false := unfrozen_of_block hR 4
  have cR5 : w1.cell? ⟨w.heap.size + 1 + 1 + 1, 5, none⟩ = some (.int .i64 0) := cell_of_block hR 5
  have fR5 : w1.frozen? ⟨w.heap.size + 1 + 1 + 1, 5, none⟩ = false := unfrozen_of_block hR 5
  have cR6 : w1.cell? ⟨w.heap.size + 1 + 1 + 1, 6, none⟩ = some (.int .i64 0) := cell_of_block hR 6
  have fR6 : w1.frozen? ⟨w.heap.size + 1 + 1 + 1, 6, none⟩ = false := unfrozen_of_block hR 6
  have cR7 : w1.cell? ⟨w.heap.size + 1 + 1 + 1, 7, none⟩ = some (.bool false) := cell_of_block hR 7
  have fR7 : w1.frozen? ⟨w.heap.size + 1 + 1 + 1, 7, none⟩ = false := unfrozen_of_block hR 7
  have cR8 : w1.cell? ⟨w.heap.size + 1 + 1 + 1, 8, none⟩ = some (.int .i64 0) := cell_of_block hR 8
  have fR8 : w1.frozen? ⟨w.heap.size + 1 + 1 + 1, 8, none⟩ = false := unfrozen_of_block hR 8
  have cR9 : w1.cell? ⟨w.heap.size + 1 + 1 + 1, 9, none⟩ = some (.int .i64 0) := cell_of_block hR 9
  have fR9 : w1.frozen? ⟨w.heap.size + 1 + 1 + 1, 9, none⟩ = false := unfrozen_of_block hR 9
  have cR10 : w1.cell? ⟨w.heap.size + 1 + 1 + 1, 10, none⟩ = some (.int .i64 0) := cell_of_block hR 10
  have fR10 : w1.frozen? ⟨w.heap.size + 1 + 1 + 1, 10, none⟩ = false := unfrozen_of_block hR 10
  have cR11 : w1.cell? ⟨w.heap.size + 1 + 1 + 1, 11, none⟩ = some (.int .i64 0) := cell_of_block hR 11
  have fR11 : w1.frozen? ⟨w.heap.size + 1 + 1 + 1, 11, none⟩ = false := unfrozen_of_block hR 11
  go_wp2_with fail
  go_at_call 8; refine (imCallOk_any _ _ _ _ _).mono ?_; rintro e w2 ⟨rfl, hb⟩
  clear cP0 cP1 cP2 cH0 cH1 cH2 cH3 cH4 cH5 cH6 cH7 cH8 cH9 cH10 cH11 cC0 cC1 cC2 cC3 cR0 fR0 cR1 fR1 cR2 fR2 cR3 fR3 cR4 fR4 cR5 fR5 cR6 fR6 cR7 fR7 cR8 fR8 cR9 fR9 cR10 fR10 cR11 fR11
  replace hP := b_block hb hP (lt_of_block hP)
  replace hH := b_block hb hH (lt_of_block hH)
  replace hC := b_block hb hC (lt_of_block hC)
  replace hR := b_block hb hR (lt_of_block hR)
  replace kw := kw.trans (hb.mono kw.size)
  clear hb
  cases h3 : callB a b c q
  · have E1 := Lib.hid (show calledH a b c h q = h by simp [calledH, h1, H2.out, h3])
    have E2 := Lib.hid (show calledI a b c h q = 2 by simp [calledI, h1, H2.out, h3])
    have cP0 : w2.cell? ⟨w.heap.size, 0, none⟩ = some (.int .i64 a) := cell_of_block hP 0
    have cP1 : w2.cell? ⟨w.heap.size, 1, none⟩ = some (.int .i64 b) := cell_of_block hP 1
    have cP2 : w2.cell? ⟨w.heap.size, 2, none⟩ = some (.int .i64 c) := cell_of_block hP 2
    have cH0 : w2.cell? ⟨w.heap.size + 1, 0, none⟩ = some (.int .i64 h.pos) := cell_of_block hH 0
    have cH1 : w2.cell? ⟨w.heap.size + 1, 1, none⟩ = some (.int .i64 h.call.code) := cell_of_block hH 1
    have cH2 : w2.cell? ⟨w.heap.size + 1, 2, none⟩ = some (.int .i64 h.call.a) := cell_of_block hH 2
    have cH3 : w2.cell? ⟨w.heap.size + 1, 3, none⟩ = some (.int .i64 h.call.b) := cell_of_block hH 3
    have cH4 : w2.cell? ⟨w.heap.size + 1, 4, none⟩ = some (.int .i64 h.call.c) := cell_of_block hH 4
    have cH5 : w2.cell? ⟨w.heap.size + 1, 5, none⟩ = some (.int .i64 h.tim) := cell_of_block hH 5
    have cH6 : w2.cell? ⟨w.heap.size + 1, 6, none⟩ = some (.int .i64 h.whe) := cell_of_block hH 6
    have cH7 : w2.cell? ⟨w.heap.size + 1, 7, none⟩ = some (.bool h.had) := cell_of_block hH 7
    have cH8 : w2.cell? ⟨w.heap.size + 1, 8, none⟩ = some (.int .i64 h.cnt) := cell_of_block hH 8
    have cH9 : w2.cell? ⟨w.heap.size + 1, 9, none⟩ = some (.int .i64 h.beg) := cell_of_block hH 9
    have cH10 : w2.cell? ⟨w.heap.size + 1, 10, none⟩ = some (.int .i64 h.rep) := cell_of_block hH 10
    have cH11 : w2.cell? ⟨w.heap.size + 1, 11, none⟩ = some (.int .i64 h.out) := cell_of_block hH 11
    have cC0 : w2.cell? ⟨w.heap.size + 1 + 1, 0, none⟩ = some (.int .i64 q.code) := cell_of_block hC 0
    have cC1 : w2.cell? ⟨w.heap.size + 1 + 1, 1, none⟩ = some (.int .i64 q.a) := cell_of_block hC 1
    have cC2 : w2.cell? ⟨w.heap.size + 1 + 1, 2, none⟩ = some (.int .i64 q.b) := cell_of_block hC 2
    have cC3 : w2.cell? ⟨w.heap.size + 1 + 1, 3, none⟩ = some (.int .i64 q.c) := cell_of_block hC 3
    have cR0 : w2.cell? ⟨w.heap.size + 1 + 1 + 1, 0, none⟩ = some (.int .i64 0) := cell_of_block hR 0
    have fR0 : w2.frozen? ⟨w.heap.size + 1 + 1 + 1, 0, none⟩ = false := unfrozen_of_block hR 0
    have cR1 : w2.cell? ⟨w.heap.size + 1 + 1 + 1, 1, none⟩ = some (.int .i64 0) := cell_of_block hR 1
    have fR1 : w2.frozen? ⟨w.heap.size + 1 + 1 + 1, 1, none⟩ = false := unfrozen_of_block hR 1
    have cR2 : w2.cell? ⟨w.heap.size + 1 + 1 + 1, 2, none⟩ = some (.int .i64 0) := cell_of_block hR 2
    have fR2 : w2.frozen? ⟨w.heap.size + 1 + 1 + 1, 2, none⟩ = false := unfrozen_of_block hR 2
    have cR3 : w2.cell? ⟨w.heap.size + 1 + 1 + 1, 3, none⟩ = some (.int .i64 0) := cell_of_block hR 3
    have fR3 : w2.frozen? ⟨w.heap.size + 1 + 1 + 1, 3, none⟩ = false := unfrozen_of_block hR 3
    have cR4 : w2.cell? ⟨w.heap.size + 1 + 1 + 1, 4, none⟩ = some (.int .i64 0) := cell_of_block hR 4
    have fR4 : w2.frozen? ⟨w.heap.size + 1 + 1 + 1, 4, none⟩ = false := unfrozen_of_block hR 4
    have cR5 : w2.cell? ⟨w.heap.size + 1 + 1 + 1, 5, none⟩ = some (.int .i64 0) := cell_of_block hR 5
    have fR5 : w2.frozen? ⟨w.heap.size + 1 + 1 + 1, 5, none⟩ = false := unfrozen_of_block hR 5
    have cR6 : w2.cell? ⟨w.heap.size + 1 + 1 + 1, 6, none⟩ = some (.int .i64 0) := cell_of_block hR 6
    have fR6 : w2.frozen? ⟨w.heap.size + 1 + 1 + 1, 6, none⟩ = false := unfrozen_of_block hR 6
    have cR7 : w2.cell? ⟨w.heap.size + 1 + 1 + 1, 7, none⟩ = some (.bool false) := cell_of_block hR 7
    have fR7 : w2.frozen? ⟨w.heap.size + 1 + 1 + 1, 7, none⟩ = false := unfrozen_of_block hR 7
    have cR8 : w2.cell? ⟨w.heap.size + 1 + 1 + 1, 8, none⟩ = some (.int .i64 0) := cell_of_block hR 8
    have fR8 : w2.frozen? ⟨w.heap.size + 1 + 1 + 1, 8, none⟩ = false := unfrozen_of_block hR 8
    have cR9 : w2.cell? ⟨w.heap.size + 1 + 1 + 1, 9, none⟩ = some (.int .i64 0) := cell_of_block hR 9
    have fR9 : w2.frozen? ⟨w.heap.size + 1 + 1 + 1, 9, none⟩ = false := unfrozen_of_block hR 9
    have cR10 : w2.cell? ⟨w.heap.size + 1 + 1 + 1, 10, none⟩ = some (.int .i64 0) := cell_of_block hR 10
    have fR10 : w2.frozen? ⟨w.heap.size + 1 + 1 + 1, 10, none⟩ = false := unfrozen_of_block hR 10
    have cR11 : w2.cell? ⟨w.heap.size + 1 + 1 + 1, 11, none⟩ = some (.int .i64 0) := cell_of_block hR 11
    have fR11 : w2.frozen? ⟨w.heap.size + 1 + 1 + 1, 11, none⟩ = false := unfrozen_of_block hR 11
    go_wp2
    have r0 := set_hand (h := h) hR
    have hb := b_set_hand (n := w.heap.size) (B := w.heap.size + 1 + 1 + 1) (h := h) kw (by omega)
    have hq := r0
    clear r0
    have r0 := cell_of_block hq 0
    have r1 := cell_of_block hq 1
    have r2 := cell_of_block hq 2
    have r3 := cell_of_block hq 3
    have r4 := cell_of_block hq 4
    have r5 := cell_of_block hq 5
    have r6 := cell_of_block hq 6
    have r7 := cell_of_block hq 7
    have r8 := cell_of_block hq 8
    have r9 := cell_of_block hq 9
    have r10 := cell_of_block hq 10
    have r11 := cell_of_block hq 11
    exact bodyPost_ret (v := .tuple #[hdV h, .int .i64 2]) (by simp [results, Try.results11, go_sem, r0, r1, r2, r3, r4, r5, r6, r7, r8, r9, r10, r11]) rfl ⟨ret_hi E1.out E2.out, hb⟩
  have E2 := Lib.hid (show calledI a b c h q = 0 by simp [calledI, h1, H2.out, h3])
  have E0 := Lib.hid (show calledH a b c h q = askedHd q by simp [calledH, h1, H2.out, h3])
  have cP0 : w2.cell? ⟨w.heap.size, 0, none⟩ = some (.int .i64 a) := cell_of_block hP 0
  have cP1 : w2.cell? ⟨w.heap.size, 1, none⟩ = some (.int .i64 b) := cell_of_block hP 1
  have cP2 : w2.cell? ⟨w.heap.size, 2, none⟩ = some (.int .i64 c) := cell_of_block hP 2
  have cH0 : w2.cell? ⟨w.heap.size + 1, 0, none⟩ = some (.int .i64 h.pos) := cell_of_block hH 0
  have cH1 : w2.cell? ⟨w.heap.size + 1, 1, none⟩ = some (.int .i64 h.call.code) := cell_of_block hH 1
  have cH2 : w2.cell? ⟨w.heap.size + 1, 2, none⟩ = some (.int .i64 h.call.a) := cell_of_block hH 2
  have cH3 : w2.cell? ⟨w.heap.size + 1, 3, none⟩ = some (.int .i64 h.call.b) := cell_of_block hH 3
  have cH4 : w2.cell? ⟨w.heap.size + 1, 4, none⟩ = some (.int .i64 h.call.c) := cell_of_block hH 4
  have cH5 : w2.cell? ⟨w.heap.size + 1, 5, none⟩ = some (.int .i64 h.tim) := cell_of_block hH 5
  have cH6 : w2.cell? ⟨w.heap.size + 1, 6, none⟩ = some (.int .i64 h.whe) := cell_of_block hH 6
  have cH7 : w2.cell? ⟨w.heap.size + 1, 7, none⟩ = some (.bool h.had) := cell_of_block hH 7
  have cH8 : w2.cell? ⟨w.heap.size + 1, 8, none⟩ = some (.int .i64 h.cnt) := cell_of_block hH 8
  have cH9 : w2.cell? ⟨w.heap.size + 1, 9, none⟩ = some (.int .i64 h.beg) := cell_of_block hH 9
  have cH10 : w2.cell? ⟨w.heap.size + 1, 10, none⟩ = some (.int .i64 h.rep) := cell_of_block hH 10
  have cH11 : w2.cell? ⟨w.heap.size + 1, 11, none⟩ = some (.int .i64 h.out) := cell_of_block hH 11
  have cC0 : w2.cell? ⟨w.heap.size + 1 + 1, 0, none⟩ = some (.int .i64 q.code) := cell_of_block hC 0
  have cC1 : w2.cell? ⟨w.heap.size + 1 + 1, 1, none⟩ = some (.int .i64 q.a) := cell_of_block hC 1
  have cC2 : w2.cell? ⟨w.heap.size + 1 + 1, 2, none⟩ = some (.int .i64 q.b) := cell_of_block hC 2
  have cC3 : w2.cell? ⟨w.heap.size + 1 + 1, 3, none⟩ = some (.int .i64 q.c) := cell_of_block hC 3
  have cR0 : w2.cell? ⟨w.heap.size + 1 + 1 + 1, 0, none⟩ = some (.int .i64 0) := cell_of_block hR 0
  have fR0 : w2.frozen? ⟨w.heap.size + 1 + 1 + 1, 0, none⟩ = false := unfrozen_of_block hR 0
  have cR1 : w2.cell? ⟨w.heap.size + 1 + 1 + 1, 1, none⟩ = some (.int .i64 0) := cell_of_block hR 1
  have fR1 : w2.frozen? ⟨w.heap.size + 1 + 1 + 1, 1, none⟩ = false := unfrozen_of_block hR 1
  have cR2 : w2.cell? ⟨w.heap.size + 1 + 1 + 1, 2, none⟩ = some (.int .i64 0) := cell_of_block hR 2
  have fR2 : w2.frozen? ⟨w.heap.size + 1 + 1 + 1, 2, none⟩ = false := unfrozen_of_block hR 2
  have cR3 : w2.cell? ⟨w.heap.size + 1 + 1 + 1, 3, none⟩ = some (.int .i64 0) := cell_of_block hR 3
  have fR3 : w2.frozen? ⟨w.heap.size + 1 + 1 + 1, 3, none⟩ = false := unfrozen_of_block hR 3
  have cR4 : w2.cell? ⟨w.heap.size + 1 + 1 + 1, 4, none⟩ = some (.int .i64 0) := cell_of_block hR 4
  have fR4 : w2.frozen? ⟨w.heap.size + 1 + 1 + 1, 4, none⟩ = false := unfrozen_of_block hR 4
  have cR5 : w2.cell? ⟨w.heap.size + 1 + 1 + 1, 5, none⟩ = some (.int .i64 0) := cell_of_block hR 5
  have fR5 : w2.frozen? ⟨w.heap.size + 1 + 1 + 1, 5, none⟩ = false := unfrozen_of_block hR 5
  have cR6 : w2.cell? ⟨w.heap.size + 1 + 1 + 1, 6, none⟩ = some (.int .i64 0) := cell_of_block hR 6
  have fR6 : w2.frozen? ⟨w.heap.size + 1 + 1 + 1, 6, none⟩ = false := unfrozen_of_block hR 6
  have cR7 : w2.cell? ⟨w.heap.size + 1 + 1 + 1, 7, none⟩ = some (.bool false) := cell_of_block hR 7
  have fR7 : w2.frozen? ⟨w.heap.size + 1 + 1 + 1, 7, none⟩ = false := unfrozen_of_block hR 7
  have cR8 : w2.cell? ⟨w.heap.size + 1 + 1 + 1, 8, none⟩ = some (.int .i64 0) := cell_of_block hR 8
  have fR8 : w2.frozen? ⟨w.heap.size + 1 + 1 + 1, 8, none⟩ = false := unfrozen_of_block hR 8
  have cR9 : w2.cell? ⟨w.heap.size + 1 + 1 + 1, 9, none⟩ = some (.int .i64 0) := cell_of_block hR 9
  have fR9 : w2.frozen? ⟨w.heap.size + 1 + 1 + 1, 9, none⟩ = false := unfrozen_of_block hR 9
  have cR10 : w2.cell? ⟨w.heap.size + 1 + 1 + 1, 10, none⟩ = some (.int .i64 0) := cell_of_block hR 10
  have fR10 : w2.frozen? ⟨w.heap.size + 1 + 1 + 1, 10, none⟩ = false := unfrozen_of_block hR 10
  have cR11 : w2.cell? ⟨w.heap.size + 1 + 1 + 1, 11, none⟩ = some (.int .i64 0) := cell_of_block hR 11
  have fR11 : w2.frozen? ⟨w.heap.size + 1 + 1 + 1, 11, none⟩ = false := unfrozen_of_block hR 11
  go_wp2_with fail
  go_at_call 22; refine (begun_any q _).mono ?_; rintro e w3 ⟨rfl, hb⟩
  clear cP0 cP1 cP2 cH0 cH1 cH2 cH3 cH4 cH5 cH6 cH7 cH8 cH9 cH10 cH11 cC0 cC1 cC2 cC3 cR0 fR0 cR1 fR1 cR2 fR2 cR3 fR3 cR4 fR4 cR5 fR5 cR6 fR6 cR7 fR7 cR8 fR8 cR9 fR9 cR10 fR10 cR11 fR11
  replace hR := b_block hb hR (lt_of_block hR)
  replace kw := kw.trans (hb.mono kw.size)
  clear hb
  have cR0 : w3.cell? ⟨w.heap.size + 1 + 1 + 1, 0, none⟩ = some (.int .i64 0) := cell_of_block hR 0
  have fR0 : w3.frozen? ⟨w.heap.size + 1 + 1 + 1, 0, none⟩ = false := unfrozen_of_block hR 0
  have cR1 : w3.cell? ⟨w.heap.size + 1 + 1 + 1, 1, none⟩ = some (.int .i64 0) := cell_of_block hR 1
  have fR1 : w3.frozen? ⟨w.heap.size + 1 + 1 + 1, 1, none⟩ = false := unfrozen_of_block hR 1
  have cR2 : w3.cell? ⟨w.heap.size + 1 + 1 + 1, 2, none⟩ = some (.int .i64 0) := cell_of_block hR 2
  have fR2 : w3.frozen? ⟨w.heap.size + 1 + 1 + 1, 2, none⟩ = false := unfrozen_of_block hR 2
  have cR3 : w3.cell? ⟨w.heap.size + 1 + 1 + 1, 3, none⟩ = some (.int .i64 0) := cell_of_block hR 3
  have fR3 : w3.frozen? ⟨w.heap.size + 1 + 1 + 1, 3, none⟩ = false := unfrozen_of_block hR 3
  have cR4 : w3.cell? ⟨w.heap.size + 1 + 1 + 1, 4, none⟩ = some (.int .i64 0) := cell_of_block hR 4
  have fR4 : w3.frozen? ⟨w.heap.size + 1 + 1 + 1, 4, none⟩ = false := unfrozen_of_block hR 4
  have cR5 : w3.cell? ⟨w.heap.size + 1 + 1 + 1, 5, none⟩ = some (.int .i64 0) := cell_of_block hR 5
  have fR5 : w3.frozen? ⟨w.heap.size + 1 + 1 + 1, 5, none⟩ = false := unfrozen_of_block hR 5
  have cR6 : w3.cell? ⟨w.heap.size + 1 + 1 + 1, 6, none⟩ = some (.int .i64 0) := cell_of_block hR 6
  have fR6 : w3.frozen? ⟨w.heap.size + 1 + 1 + 1, 6, none⟩ = false := unfrozen_of_block hR 6
  have cR7 : w3.cell? ⟨w.heap.size + 1 + 1 + 1, 7, none⟩ = some (.bool false) := cell_of_block hR 7
  have fR7 : w3.frozen? ⟨w.heap.size + 1 + 1 + 1, 7, none⟩ = false := unfrozen_of_block hR 7
  have cR8 : w3.cell? ⟨w.heap.size + 1 + 1 + 1, 8, none⟩ = some (.int .i64 0) := cell_of_block hR 8
  have fR8 : w3.frozen? ⟨w.heap.size + 1 + 1 + 1, 8, none⟩ = false := unfrozen_of_block hR 8
  have cR9 : w3.cell? ⟨w.heap.size + 1 + 1 + 1, 9, none⟩ = some (.int .i64 0) := cell_of_block hR 9
  have fR9 : w3.frozen? ⟨w.heap.size + 1 + 1 + 1, 9, none⟩ = false := unfrozen_of_block hR 9
  have cR10 : w3.cell? ⟨w.heap.size + 1 + 1 + 1, 10, none⟩ = some (.int .i64 0) := cell_of_block hR 10
  have fR10 : w3.frozen? ⟨w.heap.size + 1 + 1 + 1, 10, none⟩ = false := unfrozen_of_block hR 10
  have cR11 : w3.cell? ⟨w.heap.size + 1 + 1 + 1, 11, none⟩ = some (.int .i64 0) := cell_of_block hR 11
  have fR11 : w3.frozen? ⟨w.heap.size + 1 + 1 + 1, 11, none⟩ = false := unfrozen_of_block hR 11
  go_wp2
  have r0 := set_hand (h := askedHd q) hR
  have hb := b_set_hand (n := w.heap.size) (B := w.heap.size + 1 + 1 + 1) (h := askedHd q) kw (by omega)
  have hq := r0
  clear r0
  obtain ⟨r0, r1, r2, r3, r4, r5, r6, r7, r8, r9, r10, r11, _⟩ := twelve hq
  exact bodyPost_ret (v := .tuple #[hdV (askedHd q), .int .i64 0]) (by simp [results, Try.results11, go_sem, r0, r1, r2, r3, r4, r5, r6, r7, r8, r9, r10, r11]) rfl ⟨ret_hi E0.out E2.out, hb⟩

end Go.Proofs.Ytcapaphndemaiaa
