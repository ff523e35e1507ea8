/-
  The program's FindSlot (chapter 2), by the library's IndexFunc and a closure.
-/
import Derived.Test.YtflekodaiejflaaGreatDoorR04
import Derived.Test.YtflekodaiejflaaGreatDoorR01
import Derived.Test.YtflekodaiejflaaGreatDoorR00
import Derived.OpenShut
import Derived.ChangeOld
namespace Go.Proofs.YtflekodaiejflaaGreatDoor
open Go.RowKit Go.Joins
set_option linter.unusedVariables false
set_option linter.unusedSimpArgs false

set_option maxHeartbeats 400000 in
theorem findClo_is {b : Nat} {id x y : Int} (r : Bool) (hr : (x == id) = r) {w : World} (hc : w.cell? ⟨b, 0, none⟩ = some (.int .i64 id)) :
    Calls Tryz.prog 170 #[.agg #[.int .i64 x, .int .i64 y], .pointer (some ⟨b, 0, none⟩)] w fun e w' => e = .returned (.bool r) ∧ Below w.heap.size w w' := by
  have hl := World.block_lt_of_cell? w _ hc
  have c0 := (World.cell?_alloc_lt w (.cells #[.int .i64 x, .int .i64 y] 133) ⟨b, 0, none⟩ hl).trans hc
  clear hc
  go_enter Tryz.func170, Tryz.ntmps170
  go_wp2
  go_ret
  exact ⟨ret_bool (by first | rfl | exact hr), (Below.refl _ _).alloc (Nat.le_refl _) _⟩

set_option maxRecDepth 100000 in
set_option maxHeartbeats 1000000 in
theorem indexFunc_any {v : Value} {n bx : Nat} {f : Slots} {id : Int} {w : World} (hn : n ≤ 1048576) (h : RowAt w v n f) (hx : w.cell? ⟨bx, 0, none⟩ = some (.int .i64 id)) :
    Calls Tryz.prog 169 #[v, .func (.func 170) #[] #[.pointer (some ⟨bx, 0, none⟩)]] w fun e w' => e = .returned (.int .i64 (findFrom f n id 0)) ∧ Below w.heap.size w w' := by
  have hbx := World.block_lt_of_cell? w _ hx
  have HX := Lib.hid hx
  clear hx
  rcases h with ⟨rfl, a, cap, rfl⟩ | ⟨b, off, cap, rfl, hl, hc⟩
  · rw [findFrom_out (Nat.lt_irrefl 0)]
    go_enter Tryz.func169, Tryz.ntmps169
    go_wp2_with fail
    refine wp_loop_rounds 1 ?_
    rw [rounds_succ]
    go_wp2
    go_ret
    exact ⟨rfl, Below.refl _ _⟩
  · have H := Lib.hid hc
    clear hc
    go_enter Tryz.func169, Tryz.ntmps169
    go_wp2_with fail
    go_loopw [8] (fun i wr => ∃ k : Nat, k ≤ n ∧ i = .int .i64 k ∧ Below w.heap.size w wr ∧ Hid (findFrom f n id 0 = findFrom f n id k)) (fun i _ => n - (intOf i).toNat)
    case atStart => exact ⟨0, Nat.zero_le _, rfl, Below.refl _ _, Lib.hid rfl⟩
    case round =>
      obtain ⟨k, hk, rfl, hbw, hf⟩ := hrel
      by_cases hlt : k < n
      · have c0 := (hbw.cell (p := ⟨b, off + k * 2, none⟩) hl).trans (H.out k hlt).1
        have c1 := (hbw.cell (p := ⟨b, off + k * 2 + 1, none⟩) hl).trans (H.out k hlt).2
        have hx := (hbw.cell (p := ⟨bx, 0, none⟩) hbx).trans HX.out
        have b2 : (k : Int) < (n : Int) := by omega
        by_cases he : (f k).1 = id
        · have hr : ((f k).1 == id) = true := by simpa using he
          have hfk := Lib.hid (hf.out.trans (findFrom_here hlt he))
          clear he hf
          go_wp2_with fail
          go_at_call 170; refine (findClo_is true hr hx).mono ?_; rintro e w1 ⟨rfl, hb⟩
          have hb1 := hbw.trans (hb.mono hbw.size)
          clear c0 c1 hx hbw hb
          go_wp2
          go_ret
          exact ⟨ret_i64 hfk.out.symm, hb1⟩
        · have hr : ((f k).1 == id) = false := by simpa using he
          have hfk := Lib.hid (hf.out.trans (findFrom_next hlt he))
          clear he hf
          go_wp2_with fail
          go_at_call 170; refine (findClo_is false hr hx).mono ?_; rintro e w1 ⟨rfl, hb⟩
          have hb1 := hbw.trans (hb.mono hbw.size)
          clear c0 c1 hx hbw hb
          go_wp2
          exact ⟨⟨k + 1, by omega, by go_num, hb1, hfk⟩, by simp [intOf]; omega⟩
      · have hfk := Lib.hid (hf.out.trans (findFrom_out hlt))
        have b2 : ¬ (k : Int) < (n : Int) := by omega
        have hd : decide (k < n) = false := by simp; omega
        clear hf
        go_wp2
        go_ret
        exact ⟨ret_i64 hfk.out.symm, hbw⟩

set_option maxRecDepth 100000 in
set_option maxHeartbeats 1000000 in
theorem iFindSlot_holds : AsksI 159 findM := by
  intro v n f id w hn h
  have k0 := (Below.refl w.heap.size w).alloc (Nat.le_refl _) (.cells #[.int .i64 id] 2)
  have HR := Lib.hid (h.below k0)
  have hx := cell_of_block (heap_alloc_new w (.cells #[.int .i64 id] 2)) 0
  clear h
  go_enter Tryz.func159, Tryz.ntmps159
  go_wp2_with fail
  go_at_call 169; refine (indexFunc_any hn HR.out hx).mono ?_; rintro e w1 ⟨rfl, hb⟩
  go_wp2
  go_ret
  exact ⟨rfl, k0.trans (hb.mono k0.size)⟩

end Go.Proofs.YtflekodaiejflaaGreatDoor

/-
  A memory as the program works with it (chapter 5): how many slots are of deleted timers; is an earlier one overlooked; does each timer stand where it says?
-/
namespace Go.Proofs.YtflekodaiejflaaGreatDoor
open Go.RowKit Go.Joins
set_option linter.unusedVariables false
set_option linter.unusedSimpArgs false

set_option maxRecDepth 100000 in
set_option maxHeartbeats 8000000 in
theorem deletedOf_any {mb : Nat} {a b c : Int} {M : Me} {w : World} (htn : M.tn ≤ 1048576) (h : SeenAt w mb a b c M) {v : Value} {n : Nat} {f : Slots} (hn : n ≤ 1048576) (hr : RowAt w v n f) (hids : ∀ i, i < n → hasT M (f i).1 = true) :
    Calls Tryz.prog 145 #[ptrV mb, v] w fun e w' => e = .returned (.int .i64 (delsF M f n)) ∧ Below w.heap.size w w' := by
  obtain ⟨a1, c1, rfl⟩ := hr.form
  have HR := Lib.hid hr
  have HS := Lib.hid h
  have HI := Lib.hid hids
  clear h hr hids
  go_enter Tryz.func145, Tryz.ntmps145
  go_wp2_with fail
  go_loopw [5, 10] (fun z i wr => ∃ (q : Nat) (y : Int), q ≤ n ∧ i = .int .i64 q ∧ z = .int .i64 y ∧ y = delsF M f q ∧ Below w.heap.size w wr) (fun _ i _ => n - (intOf i).toNat)
  case atStart => exact ⟨0, 0, Nat.zero_le _, rfl, rfl, rfl, Below.refl _ _⟩
  case round =>
    obtain ⟨i, y, hi, rfl, rfl, hy, kw⟩ := hrel
    have hyb := dels_le M f i
    rw [← hy] at hyb
    obtain ⟨y0, y1⟩ := hyb
    have HY := Lib.hid hy
    clear hy
    by_cases hlt : i < n
    · rcases HR.out with ⟨h0, _⟩ | ⟨sb, so, scap, ev, hsb, hsc⟩
      · omega
      injection ev with ev1 ev2 ev3
      subst ev1 ev3
      obtain ⟨s0, s1⟩ := hsc i hlt
      replace s0 := (kw.cell (p := ⟨sb, so + i * 2, none⟩) hsb).trans s0
      replace s1 := (kw.cell (p := ⟨sb, so + i * 2 + 1, none⟩) hsb).trans s1
      have i1 : (i : Int) < (n : Int) := by omega
      have i0 : (0 : Int) ≤ (i : Int) := by omega
      obtain ⟨j, hj0⟩ : ∃ j : Nat, (f i).1 = (j : Int) := ⟨((f i).1).toNat, by have := hasT_iff.1 (HI.out i hlt); omega⟩
      have hj : j < M.tn := by have := hasT_iff.1 (HI.out i hlt); omega
      obtain ⟨ky, hky⟩ : ∃ ky : Int, ky = (f i).2 := ⟨_, rfl⟩
      rw [hj0] at s0
      rw [← hky] at s1
      have HJ := Lib.hid (show ((f i).1).toNat = j by rw [hj0]; simp)
      have ks := kw.alloc kw.size (.cells #[.int .i64 (j : Int), .int .i64 ky] 133)
      have hSv := heap_alloc_new wr (.cells #[.int .i64 (j : Int), .int .i64 ky] 133)
      have lS := lt_of_block hSv
      obtain ⟨tv, pv, hM, hT, _⟩ := HS.out.below ks
      rcases hT with ⟨h0, _⟩ | ⟨tb, tof, tc, rfl, htb, htc⟩
      · omega
      have lM := lt_of_block hM
      obtain ⟨m0, m1, m2, m3, m4, m5⟩ := six hM
      have z0 := cell_of_block hSv 0
      have z1 := cell_of_block hSv 1
      obtain ⟨t0, t1, t2, t3, t4, t5, t6, t7⟩ := cells8 (htc j hj)
      have ij0 : (0 : Int) ≤ (j : Int) := by omega
      have ij1 : (j : Int) < (M.tn : Int) := by omega
      clear hky hsc hM hSv htc hj0
      have t0' : (wr.alloc (.cells #[.int .i64 (j : Int), .int .i64 ky] 133)).cell? ⟨tb, tof + j * 8, none⟩ = some (.int .i64 (M.t j).st) := t0
      obtain ⟨st, hst⟩ : ∃ st : Int, st = (M.t j).st := ⟨_, rfl⟩
      rw [← hst] at t0'
      clear t0 t1 t2 t3 t4 t5 t6 t7
      by_cases h5 : st = 5
      · have b5 : (st == 5) = true := by simpa using h5
        have HN := Lib.hid (show y + 1 = delsF M f (i + 1) by rw [delsF, HJ.out, ← hst, if_pos h5, HY.out])
        clear hst h5
        obtain ⟨C, hC⟩ : ∃ C : World → Prop, ∀ w', C w' ↔ (w'.cell? ⟨mb, 4, none⟩ = some (.slice (some ⟨tb, tof, none⟩) M.tn tc) ∧ w'.cell? ⟨wr.heap.size, 0, none⟩ = some (.int .i64 (j : Int)) ∧ w'.cell? ⟨wr.heap.size, 1, none⟩ = some (.int .i64 ky) ∧ w'.cell? ⟨tb, tof + j * 8, none⟩ = some (.int .i64 st) ∧ Below ((wr.alloc (.cells #[.int .i64 (j : Int), .int .i64 ky] 133))).heap.size ((wr.alloc (.cells #[.int .i64 (j : Int), .int .i64 ky] 133))) w') := ⟨_, fun _ => Iff.rfl⟩
        have HCin := Lib.hid (show ∀ w', Below ((wr.alloc (.cells #[.int .i64 (j : Int), .int .i64 ky] 133))).heap.size ((wr.alloc (.cells #[.int .i64 (j : Int), .int .i64 ky] 133))) w' → C w' from fun w' kd => (hC w').2 ⟨(kd.cell (p := ⟨mb, 4, none⟩) lM).trans m4, (kd.cell (p := ⟨wr.heap.size, 0, none⟩) lS).trans z0, (kd.cell (p := ⟨wr.heap.size, 1, none⟩) lS).trans z1, (kd.cell (p := ⟨tb, tof + j * 8, none⟩) htb).trans t0', kd⟩)
        have HC := Lib.hid hC
        clear hC
        go_wp2_with fail
        refine region_quietC (C := C) (by kernel_rfl) (by kernel_rfl) (HCin.out _ (Below.refl _ _).drew) ?_
        repeat (first
          | go_big_quiet_skip
          | (go_big_quiet_want; go_big_quiet_op; go_big_quiet_on)
          | (refine quiet_take (v := ?_) (by rfl) ?_ ?_
             rotate_left
             · intro w' hw'
               obtain ⟨q0, q1, q2, q3, hbel⟩ := (HC.out w').1 hw'
               go_simp
               first
                 | done
                 | exact rfl
             simp only [Act.put, List.setIfInBounds_toArray, List.set_cons_zero, List.set_cons_succ]))
        refine wpQuiet_nil ?_
        intro wq hwq
        obtain ⟨q0, q1, q2, q3, kd⟩ := (HC.out wq).1 hwq
        clear hwq HC HCin
        have kn := ks.trans (kd.mono ks.size)
        go_wp2
        exact ⟨⟨i + 1, _, by omega, by go_num, rfl, HN.out, kn⟩, by simp only [intOf]; omega⟩
      · have b5 : (st == 5) = false := beq_eq_false_iff_ne.2 h5
        have HN := Lib.hid (show y = delsF M f (i + 1) by rw [delsF, HJ.out, ← hst, if_neg h5, HY.out]; simp)
        clear hst h5
        obtain ⟨C, hC⟩ : ∃ C : World → Prop, ∀ w', C w' ↔ (w'.cell? ⟨mb, 4, none⟩ = some (.slice (some ⟨tb, tof, none⟩) M.tn tc) ∧ w'.cell? ⟨wr.heap.size, 0, none⟩ = some (.int .i64 (j : Int)) ∧ w'.cell? ⟨wr.heap.size, 1, none⟩ = some (.int .i64 ky) ∧ w'.cell? ⟨tb, tof + j * 8, none⟩ = some (.int .i64 st) ∧ Below ((wr.alloc (.cells #[.int .i64 (j : Int), .int .i64 ky] 133))).heap.size ((wr.alloc (.cells #[.int .i64 (j : Int), .int .i64 ky] 133))) w') := ⟨_, fun _ => Iff.rfl⟩
        have HCin := Lib.hid (show ∀ w', Below ((wr.alloc (.cells #[.int .i64 (j : Int), .int .i64 ky] 133))).heap.size ((wr.alloc (.cells #[.int .i64 (j : Int), .int .i64 ky] 133))) w' → C w' from fun w' kd => (hC w').2 ⟨(kd.cell (p := ⟨mb, 4, none⟩) lM).trans m4, (kd.cell (p := ⟨wr.heap.size, 0, none⟩) lS).trans z0, (kd.cell (p := ⟨wr.heap.size, 1, none⟩) lS).trans z1, (kd.cell (p := ⟨tb, tof + j * 8, none⟩) htb).trans t0', kd⟩)
        have HC := Lib.hid hC
        clear hC
        go_wp2_with fail
        refine region_quietC (C := C) (by kernel_rfl) (by kernel_rfl) (HCin.out _ (Below.refl _ _).drew) ?_
        repeat (first
          | go_big_quiet_skip
          | (go_big_quiet_want; go_big_quiet_op; go_big_quiet_on)
          | (refine quiet_take (v := ?_) (by rfl) ?_ ?_
             rotate_left
             · intro w' hw'
               obtain ⟨q0, q1, q2, q3, hbel⟩ := (HC.out w').1 hw'
               go_simp
               first
                 | done
                 | exact rfl
             simp only [Act.put, List.setIfInBounds_toArray, List.set_cons_zero, List.set_cons_succ]))
        refine wpQuiet_nil ?_
        intro wq hwq
        obtain ⟨q0, q1, q2, q3, kd⟩ := (HC.out wq).1 hwq
        clear hwq HC HCin
        have kn := ks.trans (kd.mono ks.size)
        go_wp2
        exact ⟨⟨i + 1, _, by omega, by go_num, rfl, HN.out, kn⟩, by simp only [intOf]; omega⟩
    · have hin : i = n := by omega
      have HIN := Lib.hid hin
      have hlt2 : ¬ (i : Int) < (n : Int) := by omega
      clear hin
      go_wp2
      go_ret
      exact ⟨ret_i64 (by rw [← HIN.out, HY.out]), kw⟩

set_option maxRecDepth 100000 in
set_option maxHeartbeats 8000000 in
theorem earliestAgrees_any {mb : Nat} {a b c : Int} {M : Me} {w : World} (htn : M.tn ≤ 1048576) (h : SeenAt w mb a b c M) {v : Value} {n : Nat} {f : Slots} (l e d : Int) (hn : n ≤ 1048576) (hr : RowAt w v n f) (hids : ∀ i, i < n → hasT M (f i).1 = true) :
    Calls Tryz.prog 146 #[ptrV mb, pxV v l e d] w fun x w' => x = .returned (.bool (allB (fun i => !ovB e (M.t ((f i).1).toNat)) n)) ∧ Below w.heap.size w w' := by
  obtain ⟨a1, c1, rfl⟩ := hr.form
  have k0 := (Below.refl w.heap.size w).alloc (Nat.le_refl _) (pxB (.slice a1 n c1) l e d)
  have hX := heap_alloc_new w (pxB (.slice a1 n c1) l e d)
  have HXB := Lib.hid hX
  have HR := Lib.hid hr
  have HS := Lib.hid h
  have HI := Lib.hid hids
  obtain ⟨x0, x1, x2, x3, _, _, _, _⟩ := four hX
  have lX0 := lt_of_block hX
  clear h hr hids hX
  go_enter Tryz.func146, Tryz.ntmps146
  go_wp2_with fail
  clear x0 x1 x2 x3
  go_loopw [10] (fun i wr => ∃ q : Nat, q ≤ n ∧ i = .int .i64 q ∧ Hid (allB (fun i => !ovB e (M.t ((f i).1).toNat)) q = true) ∧ Below (w.alloc (pxB (.slice a1 n c1) l e d)).heap.size (w.alloc (pxB (.slice a1 n c1) l e d)) wr) (fun i _ => n - (intOf i).toNat)
  case atStart => exact ⟨0, Nat.zero_le _, rfl, Lib.hid rfl, Below.refl _ _⟩
  case round =>
    obtain ⟨i, hi, rfl, hok, kx⟩ := hrel
    have kw := k0.trans (kx.mono k0.size)
    by_cases hlt : i < n
    · rcases HR.out with ⟨h0, _⟩ | ⟨sb, so, scap, ev, hsb, hsc⟩
      · omega
      injection ev with ev1 ev2 ev3
      subst ev1 ev3
      obtain ⟨s0, s1⟩ := hsc i hlt
      replace s0 := (kw.cell (p := ⟨sb, so + i * 2, none⟩) hsb).trans s0
      replace s1 := (kw.cell (p := ⟨sb, so + i * 2 + 1, none⟩) hsb).trans s1
      have i1 : (i : Int) < (n : Int) := by omega
      have i0 : (0 : Int) ≤ (i : Int) := by omega
      obtain ⟨j, hj0⟩ : ∃ j : Nat, (f i).1 = (j : Int) := ⟨((f i).1).toNat, by have := hasT_iff.1 (HI.out i hlt); omega⟩
      have hj : j < M.tn := by have := hasT_iff.1 (HI.out i hlt); omega
      obtain ⟨ky, hky⟩ : ∃ ky : Int, ky = (f i).2 := ⟨_, rfl⟩
      rw [hj0] at s0
      rw [← hky] at s1
      have HJ := Lib.hid (show ((f i).1).toNat = j by rw [hj0]; simp)
      have ks := kw.alloc kw.size (.cells #[.int .i64 (j : Int), .int .i64 ky] 133)
      have hSv := heap_alloc_new wr (.cells #[.int .i64 (j : Int), .int .i64 ky] 133)
      have lS := lt_of_block hSv
      obtain ⟨tv, pv, hM, hT, _⟩ := HS.out.below ks
      rcases hT with ⟨h0, _⟩ | ⟨tb, tof, tc, rfl, htb, htc⟩
      · omega
      have lM := lt_of_block hM
      obtain ⟨m0, m1, m2, m3, m4, m5⟩ := six hM
      have z0 := cell_of_block hSv 0
      have z1 := cell_of_block hSv 1
      obtain ⟨t0, t1, t2, t3, t4, t5, t6, t7⟩ := cells8 (htc j hj)
      have ij0 : (0 : Int) ≤ (j : Int) := by omega
      have ij1 : (j : Int) < (M.tn : Int) := by omega
      clear hky hsc hM hSv htc hj0
      have hXa := alloc_block (.cells #[.int .i64 (j : Int), .int .i64 ky] 133) (b_block kx HXB.out lX0)
      have lX := lt_of_block hXa
      obtain ⟨x0, x1, x2, x3, _, _, _, _⟩ := four hXa
      clear hXa
      cases ho : ovB e (M.t j)
      · have HN := Lib.hid (show allB (fun i => !ovB e (M.t ((f i).1).toNat)) (i + 1) = true by rw [allB, hok.out, Bool.true_and]; show (!ovB e (M.t ((f i).1).toNat)) = true; rw [HJ.out, ho]; rfl)
        have HO := Lib.hid ho
        clear ho
        obtain ⟨C, hC⟩ : ∃ C : World → Prop, ∀ w', C w' ↔ (w'.cell? ⟨mb, 4, none⟩ = some (.slice (some ⟨tb, tof, none⟩) M.tn tc) ∧ w'.cell? ⟨wr.heap.size, 0, none⟩ = some (.int .i64 (j : Int)) ∧ w'.cell? ⟨wr.heap.size, 1, none⟩ = some (.int .i64 ky) ∧ w'.cell? ⟨w.heap.size, 0, none⟩ = some (.int .i64 l) ∧ w'.cell? ⟨w.heap.size, 1, none⟩ = some (.slice (some ⟨sb, so, none⟩) n c1) ∧ w'.cell? ⟨w.heap.size, 2, none⟩ = some (.int .i64 e) ∧ w'.cell? ⟨w.heap.size, 3, none⟩ = some (.int .i64 d) ∧ w'.cell? ⟨tb, tof + j * 8, none⟩ = some (.int .i64 (M.t j).st) ∧ w'.cell? ⟨tb, tof + j * 8 + 1, none⟩ = some (.int .i64 (M.t j).wh) ∧ w'.cell? ⟨tb, tof + j * 8 + 2, none⟩ = some (.int .i64 (M.t j).nx) ∧ w'.cell? ⟨tb, tof + j * 8 + 3, none⟩ = some (.int .i64 (M.t j).pe) ∧ w'.cell? ⟨tb, tof + j * 8 + 4, none⟩ = some (.int .i64 (M.t j).pl) ∧ w'.cell? ⟨tb, tof + j * 8 + 5, none⟩ = some (.int .i64 (M.t j).ge) ∧ w'.cell? ⟨tb, tof + j * 8 + 6, none⟩ = some (.int .i64 (M.t j).ki) ∧ w'.cell? ⟨tb, tof + j * 8 + 7, none⟩ = some (.int .i64 (M.t j).ma) ∧ Below ((wr.alloc (.cells #[.int .i64 (j : Int), .int .i64 ky] 133))).heap.size ((wr.alloc (.cells #[.int .i64 (j : Int), .int .i64 ky] 133))) w') := ⟨_, fun _ => Iff.rfl⟩
        have HCin := Lib.hid (show ∀ w', Below ((wr.alloc (.cells #[.int .i64 (j : Int), .int .i64 ky] 133))).heap.size ((wr.alloc (.cells #[.int .i64 (j : Int), .int .i64 ky] 133))) w' → C w' from fun w' kd => (hC w').2 ⟨(kd.cell (p := ⟨mb, 4, none⟩) lM).trans m4, (kd.cell (p := ⟨wr.heap.size, 0, none⟩) lS).trans z0, (kd.cell (p := ⟨wr.heap.size, 1, none⟩) lS).trans z1, (kd.cell (p := ⟨w.heap.size, 0, none⟩) lX).trans x0, (kd.cell (p := ⟨w.heap.size, 1, none⟩) lX).trans x1, (kd.cell (p := ⟨w.heap.size, 2, none⟩) lX).trans x2, (kd.cell (p := ⟨w.heap.size, 3, none⟩) lX).trans x3, (kd.cell (p := ⟨tb, tof + j * 8, none⟩) htb).trans t0, (kd.cell (p := ⟨tb, tof + j * 8 + 1, none⟩) htb).trans t1, (kd.cell (p := ⟨tb, tof + j * 8 + 2, none⟩) htb).trans t2, (kd.cell (p := ⟨tb, tof + j * 8 + 3, none⟩) htb).trans t3, (kd.cell (p := ⟨tb, tof + j * 8 + 4, none⟩) htb).trans t4, (kd.cell (p := ⟨tb, tof + j * 8 + 5, none⟩) htb).trans t5, (kd.cell (p := ⟨tb, tof + j * 8 + 6, none⟩) htb).trans t6, (kd.cell (p := ⟨tb, tof + j * 8 + 7, none⟩) htb).trans t7, kd⟩)
        have HC := Lib.hid hC
        have HFn0 : ∀ W : World, Below ((wr.alloc (.cells #[.int .i64 (j : Int), .int .i64 ky] 133))).heap.size ((wr.alloc (.cells #[.int .i64 (j : Int), .int .i64 ky] 133))) W → Calls Tryz.prog 124 #[pxV (.slice (some ⟨sb, so, none⟩) n c1) l e d, tmV (M.t j)] W (fun e w'' => e = .returned (.bool false) ∧ Below W.heap.size W w'') := fun W hW => by have := overlooks_any (v := .slice (some ⟨sb, so, none⟩) n c1) l e d (M.t j) (w := W) ⟨_, _, rfl⟩; rw [HO.out] at this; exact this
        have HCall0 := Lib.hid (show ∀ w', C w' → Calls Tryz.prog 124 #[pxV (.slice (some ⟨sb, so, none⟩) n c1) l e d, tmV (M.t j)] w' (fun e w'' => e = .returned (.bool false) ∧ C w'') from fun w' hw' => (HFn0 w' ((HC.out w').1 hw').2.2.2.2.2.2.2.2.2.2.2.2.2.2.2).mono (fun e w'' hx => ⟨hx.1, HCin.out _ ((((HC.out w').1 hw').2.2.2.2.2.2.2.2.2.2.2.2.2.2.2).trans (hx.2.mono (((HC.out w').1 hw').2.2.2.2.2.2.2.2.2.2.2.2.2.2.2).size))⟩))
        clear hC HFn0
        go_wp2_with fail
        refine region_quietC (C := C) (by kernel_rfl) (by kernel_rfl) (HCin.out _ (Below.refl _ _).drew) ?_
        repeat (first
          | go_big_quiet_skip
          | (go_big_quiet_want; go_big_quiet_op; go_big_quiet_on)
          | (refine quiet_take (v := ?_) (by rfl) ?_ ?_
             rotate_left
             · intro w' hw'
               obtain ⟨q0, q1, q2, q3, q4, q5, q6, q7, q8, q9, q10, q11, q12, q13, q14, hbel⟩ := (HC.out w').1 hw'
               go_simp
               first
                 | done
                 | exact rfl
                 | exact HCall0.out w' hw'
             simp only [Act.put, List.setIfInBounds_toArray, List.set_cons_zero, List.set_cons_succ]))
        refine wpQuiet_nil ?_
        intro wq hwq
        obtain ⟨q0, q1, q2, q3, q4, q5, q6, q7, q8, q9, q10, q11, q12, q13, q14, kd⟩ := (HC.out wq).1 hwq
        clear hwq HCall0 HC HCin
        have kn := (kx.alloc kx.size (.cells #[.int .i64 (j : Int), .int .i64 ky] 133)).trans (kd.mono (Nat.le_trans kx.size (World.grownBy_alloc wr _ none).size))
        clear kx kw ks
        go_wp2
        exact ⟨⟨i + 1, by omega, by go_num, HN, kn⟩, by simp only [intOf]; omega⟩
      · have HBAD := Lib.hid (show allB (fun i => !ovB e (M.t ((f i).1).toNat)) n = false from allB_bad (i := i) (by show (!ovB e (M.t ((f i).1).toNat)) = false; rw [HJ.out, ho]; rfl) _ hlt)
        have HO := Lib.hid ho
        clear ho
        obtain ⟨C, hC⟩ : ∃ C : World → Prop, ∀ w', C w' ↔ (w'.cell? ⟨mb, 4, none⟩ = some (.slice (some ⟨tb, tof, none⟩) M.tn tc) ∧ w'.cell? ⟨wr.heap.size, 0, none⟩ = some (.int .i64 (j : Int)) ∧ w'.cell? ⟨wr.heap.size, 1, none⟩ = some (.int .i64 ky) ∧ w'.cell? ⟨w.heap.size, 0, none⟩ = some (.int .i64 l) ∧ w'.cell? ⟨w.heap.size, 1, none⟩ = some (.slice (some ⟨sb, so, none⟩) n c1) ∧ w'.cell? ⟨w.heap.size, 2, none⟩ = some (.int .i64 e) ∧ w'.cell? ⟨w.heap.size, 3, none⟩ = some (.int .i64 d) ∧ w'.cell? ⟨tb, tof + j * 8, none⟩ = some (.int .i64 (M.t j).st) ∧ w'.cell? ⟨tb, tof + j * 8 + 1, none⟩ = some (.int .i64 (M.t j).wh) ∧ w'.cell? ⟨tb, tof + j * 8 + 2, none⟩ = some (.int .i64 (M.t j).nx) ∧ w'.cell? ⟨tb, tof + j * 8 + 3, none⟩ = some (.int .i64 (M.t j).pe) ∧ w'.cell? ⟨tb, tof + j * 8 + 4, none⟩ = some (.int .i64 (M.t j).pl) ∧ w'.cell? ⟨tb, tof + j * 8 + 5, none⟩ = some (.int .i64 (M.t j).ge) ∧ w'.cell? ⟨tb, tof + j * 8 + 6, none⟩ = some (.int .i64 (M.t j).ki) ∧ w'.cell? ⟨tb, tof + j * 8 + 7, none⟩ = some (.int .i64 (M.t j).ma) ∧ Below ((wr.alloc (.cells #[.int .i64 (j : Int), .int .i64 ky] 133))).heap.size ((wr.alloc (.cells #[.int .i64 (j : Int), .int .i64 ky] 133))) w') := ⟨_, fun _ => Iff.rfl⟩
        have HCin := Lib.hid (show ∀ w', Below ((wr.alloc (.cells #[.int .i64 (j : Int), .int .i64 ky] 133))).heap.size ((wr.alloc (.cells #[.int .i64 (j : Int), .int .i64 ky] 133))) w' → C w' from fun w' kd => (hC w').2 ⟨(kd.cell (p := ⟨mb, 4, none⟩) lM).trans m4, (kd.cell (p := ⟨wr.heap.size, 0, none⟩) lS).trans z0, (kd.cell (p := ⟨wr.heap.size, 1, none⟩) lS).trans z1, (kd.cell (p := ⟨w.heap.size, 0, none⟩) lX).trans x0, (kd.cell (p := ⟨w.heap.size, 1, none⟩) lX).trans x1, (kd.cell (p := ⟨w.heap.size, 2, none⟩) lX).trans x2, (kd.cell (p := ⟨w.heap.size, 3, none⟩) lX).trans x3, (kd.cell (p := ⟨tb, tof + j * 8, none⟩) htb).trans t0, (kd.cell (p := ⟨tb, tof + j * 8 + 1, none⟩) htb).trans t1, (kd.cell (p := ⟨tb, tof + j * 8 + 2, none⟩) htb).trans t2, (kd.cell (p := ⟨tb, tof + j * 8 + 3, none⟩) htb).trans t3, (kd.cell (p := ⟨tb, tof + j * 8 + 4, none⟩) htb).trans t4, (kd.cell (p := ⟨tb, tof + j * 8 + 5, none⟩) htb).trans t5, (kd.cell (p := ⟨tb, tof + j * 8 + 6, none⟩) htb).trans t6, (kd.cell (p := ⟨tb, tof + j * 8 + 7, none⟩) htb).trans t7, kd⟩)
        have HC := Lib.hid hC
        have HFn0 : ∀ W : World, Below ((wr.alloc (.cells #[.int .i64 (j : Int), .int .i64 ky] 133))).heap.size ((wr.alloc (.cells #[.int .i64 (j : Int), .int .i64 ky] 133))) W → Calls Tryz.prog 124 #[pxV (.slice (some ⟨sb, so, none⟩) n c1) l e d, tmV (M.t j)] W (fun e w'' => e = .returned (.bool true) ∧ Below W.heap.size W w'') := fun W hW => by have := overlooks_any (v := .slice (some ⟨sb, so, none⟩) n c1) l e d (M.t j) (w := W) ⟨_, _, rfl⟩; rw [HO.out] at this; exact this
        have HCall0 := Lib.hid (show ∀ w', C w' → Calls Tryz.prog 124 #[pxV (.slice (some ⟨sb, so, none⟩) n c1) l e d, tmV (M.t j)] w' (fun e w'' => e = .returned (.bool true) ∧ C w'') from fun w' hw' => (HFn0 w' ((HC.out w').1 hw').2.2.2.2.2.2.2.2.2.2.2.2.2.2.2).mono (fun e w'' hx => ⟨hx.1, HCin.out _ ((((HC.out w').1 hw').2.2.2.2.2.2.2.2.2.2.2.2.2.2.2).trans (hx.2.mono (((HC.out w').1 hw').2.2.2.2.2.2.2.2.2.2.2.2.2.2.2).size))⟩))
        clear hC HFn0
        go_wp2_with fail
        refine region_quietC (C := C) (by kernel_rfl) (by kernel_rfl) (HCin.out _ (Below.refl _ _).drew) ?_
        repeat (first
          | go_big_quiet_skip
          | (go_big_quiet_want; go_big_quiet_op; go_big_quiet_on)
          | (refine quiet_take (v := ?_) (by rfl) ?_ ?_
             rotate_left
             · intro w' hw'
               obtain ⟨q0, q1, q2, q3, q4, q5, q6, q7, q8, q9, q10, q11, q12, q13, q14, hbel⟩ := (HC.out w').1 hw'
               go_simp
               first
                 | done
                 | exact rfl
                 | exact HCall0.out w' hw'
             simp only [Act.put, List.setIfInBounds_toArray, List.set_cons_zero, List.set_cons_succ]))
        refine wpQuiet_nil ?_
        intro wq hwq
        obtain ⟨q0, q1, q2, q3, q4, q5, q6, q7, q8, q9, q10, q11, q12, q13, q14, kd⟩ := (HC.out wq).1 hwq
        clear hwq HCall0 HC HCin
        go_wp2
        go_ret
        exact ⟨ret_bool' HBAD.out.symm, ks.trans (kd.mono ks.size)⟩
    · have hin : i = n := by omega
      have HIN := Lib.hid hin
      have hlt2 : ¬ (i : Int) < (n : Int) := by omega
      clear hin
      go_wp2
      go_ret
      exact ⟨ret_bool' (by rw [← HIN.out, hok.out]), kw⟩

/-- does the timer i stand where it says? -/
def placeOkB (M : Me) (i : Nat) : Bool := (M.t i).pl == -1 || !decide (findFrom (M.p (M.t i).pl.toNat).f (M.p (M.t i).pl.toNat).n (i : Int) 0 < 0)
set_option maxRecDepth 100000 in
set_option maxHeartbeats 8000000 in
theorem placesAgree_any {mb : Nat} {a b c : Int} {M : Me} {w : World} (hs : sizeM M ≤ 1048576) (h : SeenAt w mb a b c M) (hpl : ∀ i, i < M.tn → (M.t i).pl = -1 ∨ 0 ≤ (M.t i).pl ∧ (M.t i).pl < (M.pn : Int)) :
    Calls Tryz.prog 147 #[ptrV mb] w fun e w' => e = .returned (.bool (allB (placeOkB M) M.tn)) ∧ Below w.heap.size w w' := by
  obtain ⟨htn, hpn, hsl, hns⟩ := sizeM_le hs
  have HS := Lib.hid h
  have HPL := Lib.hid hpl
  have HNS := Lib.hid hns
  obtain ⟨tv, pv, hM0, hT0, hP0⟩ := h
  obtain ⟨ta, tc, htv⟩ := hT0.form
  obtain ⟨qa, qc, hpv⟩ := hP0.form
  subst htv hpv
  have lM0 := lt_of_block hM0
  have HM0 := Lib.hid hM0
  have HT0 := Lib.hid hT0
  have HP0 := Lib.hid hP0
  obtain ⟨n0, n1, n2, n3, n4, n5⟩ := six hM0
  clear hpl hns hsl hM0 hT0 hP0
  go_enter Tryz.func147, Tryz.ntmps147
  go_wp2_with fail
  clear n0 n1 n2 n3 n4 n5
  go_loopw [10] (fun i wr => ∃ q : Nat, q ≤ M.tn ∧ i = .int .i64 q ∧ Hid (allB (placeOkB M) q = true) ∧ Below w.heap.size w wr) (fun i _ => M.tn - (intOf i).toNat)
  case atStart => exact ⟨0, Nat.zero_le _, rfl, Lib.hid rfl, Below.refl _ _⟩
  case round =>
    obtain ⟨i, hi, rfl, hok, kw⟩ := hrel
    by_cases hlt : i < M.tn
    · rcases HT0.out with ⟨h0, _⟩ | ⟨tb, tof, tcap, ev, htb, htc⟩
      · omega
      injection ev with ev1 ev2 ev3
      subst ev1 ev3
      have i1 : (i : Int) < (M.tn : Int) := by omega
      have i0 : (0 : Int) ≤ (i : Int) := by omega
      obtain ⟨t0, t1, t2, t3, t4, t5, t6, t7⟩ := cells8 (w := wr) (b := tb) (o := tof + i * 8) (t := M.t i) (fun q hq => (kw.cell (p := ⟨tb, tof + i * 8 + q, none⟩) htb).trans (htc i hlt q hq))
      have ks := kw.alloc kw.size (.cells (tmCells (M.t i)) 80)
      have hSv := heap_alloc_new wr (.cells (tmCells (M.t i)) 80)
      have lS := lt_of_block hSv
      have hM := b_block ks HM0.out lM0
      have lM := lt_of_block hM
      obtain ⟨m0, m1, m2, m3, m4, m5⟩ := six hM
      obtain ⟨z0, z1, z2, z3, z4, z5, z6, z7⟩ := tm_cells hSv
      clear hSv hM htc
      by_cases hp1 : (M.t i).pl = -1
      · have HN := Lib.hid (show allB (placeOkB M) (i + 1) = true by rw [allB, hok.out, Bool.true_and]; unfold placeOkB; rw [hp1]; rfl)
        obtain ⟨T, hTe⟩ : ∃ T : Tm, T = M.t i := ⟨_, rfl⟩
        rw [← hTe] at t0 t1 t2 t3 t4 t5 t6 t7 z0 z1 z2 z3 z4 z5 z6 z7 hp1 ks lS lM m0 m1 m2 m3 m4 m5
        have bp : (T.pl != -1) = false := by rw [hp1]; rfl
        have HTe := Lib.hid hTe
        clear hp1 hTe
        obtain ⟨C, hC⟩ : ∃ C : World → Prop, ∀ w', C w' ↔ (w'.cell? ⟨mb, 5, none⟩ = some (.slice qa M.pn qc) ∧ w'.cell? ⟨wr.heap.size, 0, none⟩ = some (.int .i64 T.st) ∧ w'.cell? ⟨wr.heap.size, 1, none⟩ = some (.int .i64 T.wh) ∧ w'.cell? ⟨wr.heap.size, 2, none⟩ = some (.int .i64 T.nx) ∧ w'.cell? ⟨wr.heap.size, 3, none⟩ = some (.int .i64 T.pe) ∧ w'.cell? ⟨wr.heap.size, 4, none⟩ = some (.int .i64 T.pl) ∧ w'.cell? ⟨wr.heap.size, 5, none⟩ = some (.int .i64 T.ge) ∧ w'.cell? ⟨wr.heap.size, 6, none⟩ = some (.int .i64 T.ki) ∧ w'.cell? ⟨wr.heap.size, 7, none⟩ = some (.int .i64 T.ma) ∧ Below ((wr.alloc (.cells (tmCells T) 80))).heap.size ((wr.alloc (.cells (tmCells T) 80))) w') := ⟨_, fun _ => Iff.rfl⟩
        have HCin := Lib.hid (show ∀ w', Below ((wr.alloc (.cells (tmCells T) 80))).heap.size ((wr.alloc (.cells (tmCells T) 80))) w' → C w' from fun w' kd => (hC w').2 ⟨(kd.cell (p := ⟨mb, 5, none⟩) lM).trans m5, (kd.cell (p := ⟨wr.heap.size, 0, none⟩) lS).trans z0, (kd.cell (p := ⟨wr.heap.size, 1, none⟩) lS).trans z1, (kd.cell (p := ⟨wr.heap.size, 2, none⟩) lS).trans z2, (kd.cell (p := ⟨wr.heap.size, 3, none⟩) lS).trans z3, (kd.cell (p := ⟨wr.heap.size, 4, none⟩) lS).trans z4, (kd.cell (p := ⟨wr.heap.size, 5, none⟩) lS).trans z5, (kd.cell (p := ⟨wr.heap.size, 6, none⟩) lS).trans z6, (kd.cell (p := ⟨wr.heap.size, 7, none⟩) lS).trans z7, kd⟩)
        have HC := Lib.hid hC
        clear hC
        go_wp2_with fail
        refine region_quietC (C := C) (by kernel_rfl) (by kernel_rfl) (HCin.out _ (Below.refl _ _).drew) ?_
        repeat (first
          | go_big_quiet_skip
          | (go_big_quiet_want; go_big_quiet_op; go_big_quiet_on)
          | (refine quiet_take (v := ?_) (by rfl) ?_ ?_
             rotate_left
             · intro w' hw'
               obtain ⟨q0, q1, q2, q3, q4, q5, q6, q7, q8, hbel⟩ := (HC.out w').1 hw'
               go_simp
               first
                 | done
                 | exact rfl
             simp only [Act.put, List.setIfInBounds_toArray, List.set_cons_zero, List.set_cons_succ]))
        refine wpQuiet_nil ?_
        intro wq hwq
        obtain ⟨q0, q1, q2, q3, q4, q5, q6, q7, q8, kd⟩ := (HC.out wq).1 hwq
        clear hwq HC HCin
        have kn := ks.trans (kd.mono ks.size)
        go_wp2
        exact ⟨⟨i + 1, by omega, by go_num, HN, kn⟩, by simp only [intOf]; omega⟩
      · have hp2 : 0 ≤ (M.t i).pl ∧ (M.t i).pl < (M.pn : Int) := by
          rcases HPL.out i hlt with h | h
          · exact absurd h hp1
          · exact h
        have hgn : (M.t i).pl.toNat < M.pn := by omega
        rcases HP0.out with ⟨h0, _⟩ | ⟨pb, po, pcap, ev, hpb, hpc⟩
        · omega
        injection ev with ev1 ev2 ev3
        subst ev1 ev3
        have hpcg := hpc _ hgn
        have hng := HNS.out _ hgn
        have hplB := Lib.hid (show placeOkB M i = !decide (findFrom (M.p (M.t i).pl.toNat).f (M.p (M.t i).pl.toNat).n (i : Int) 0 < 0) by unfold placeOkB; rw [show ((M.t i).pl == -1) = false from beq_eq_false_iff_ne.2 hp1, Bool.false_or])
        obtain ⟨T, hTe⟩ : ∃ T : Tm, T = M.t i := ⟨_, rfl⟩
        rw [← hTe] at t0 t1 t2 t3 t4 t5 t6 t7 z0 z1 z2 z3 z4 z5 z6 z7 hp1 hp2 ks lS lM m0 m1 m2 m3 m4 m5 hpcg hng hplB
        obtain ⟨G, hG⟩ : ∃ G : Pc, G = M.p T.pl.toNat := ⟨_, rfl⟩
        rw [← hG] at hpcg hng hplB
        obtain ⟨xa, xc, p0, p1, p2, p3, hrow⟩ := hpcg
        replace p1 := (ks.cell (p := ⟨pb, po + T.pl.toNat * 4 + 1, none⟩) hpb).trans p1
        have lP := Nat.lt_of_lt_of_le hpb ks.size
        obtain ⟨r, hr⟩ : ∃ r : Int, r = findFrom G.f G.n (i : Int) 0 := ⟨_, rfl⟩
        have HF := Lib.hid (fun (W : World) (hW : Below w.heap.size w W) => by have := iFindSlot_holds _ _ G.f (i : Int) W hng (hrow.below hW); rw [show findM G.f G.n (i : Int) = r from hr.symm] at this; exact this)
        have HB := Lib.hid (show placeOkB M i = !decide (r < 0) by rw [hplB.out, hr])
        have bp : (T.pl != -1) = true := by rw [bne, beq_eq_false_iff_ne.2 hp1]; rfl
        obtain ⟨g0, g1⟩ := hp2
        have HTe := Lib.hid hTe
        have HG := Lib.hid hG
        clear hr hrow hpc p0 p2 p3 hp1 hTe hG hplB hgn
        cases hr0 : decide (r < 0)
        · have HN := Lib.hid (show allB (placeOkB M) (i + 1) = true by rw [allB, hok.out, Bool.true_and, HB.out, hr0]; rfl)
          obtain ⟨C, hC⟩ : ∃ C : World → Prop, ∀ w', C w' ↔ (w'.cell? ⟨mb, 5, none⟩ = some (.slice (some ⟨pb, po, none⟩) M.pn qc) ∧ w'.cell? ⟨pb, po + T.pl.toNat * 4 + 1, none⟩ = some (.slice xa G.n xc) ∧ w'.cell? ⟨wr.heap.size, 0, none⟩ = some (.int .i64 T.st) ∧ w'.cell? ⟨wr.heap.size, 1, none⟩ = some (.int .i64 T.wh) ∧ w'.cell? ⟨wr.heap.size, 2, none⟩ = some (.int .i64 T.nx) ∧ w'.cell? ⟨wr.heap.size, 3, none⟩ = some (.int .i64 T.pe) ∧ w'.cell? ⟨wr.heap.size, 4, none⟩ = some (.int .i64 T.pl) ∧ w'.cell? ⟨wr.heap.size, 5, none⟩ = some (.int .i64 T.ge) ∧ w'.cell? ⟨wr.heap.size, 6, none⟩ = some (.int .i64 T.ki) ∧ w'.cell? ⟨wr.heap.size, 7, none⟩ = some (.int .i64 T.ma) ∧ Below ((wr.alloc (.cells (tmCells T) 80))).heap.size ((wr.alloc (.cells (tmCells T) 80))) w') := ⟨_, fun _ => Iff.rfl⟩
          have HCin := Lib.hid (show ∀ w', Below ((wr.alloc (.cells (tmCells T) 80))).heap.size ((wr.alloc (.cells (tmCells T) 80))) w' → C w' from fun w' kd => (hC w').2 ⟨(kd.cell (p := ⟨mb, 5, none⟩) lM).trans m5, (kd.cell (p := ⟨pb, po + T.pl.toNat * 4 + 1, none⟩) lP).trans p1, (kd.cell (p := ⟨wr.heap.size, 0, none⟩) lS).trans z0, (kd.cell (p := ⟨wr.heap.size, 1, none⟩) lS).trans z1, (kd.cell (p := ⟨wr.heap.size, 2, none⟩) lS).trans z2, (kd.cell (p := ⟨wr.heap.size, 3, none⟩) lS).trans z3, (kd.cell (p := ⟨wr.heap.size, 4, none⟩) lS).trans z4, (kd.cell (p := ⟨wr.heap.size, 5, none⟩) lS).trans z5, (kd.cell (p := ⟨wr.heap.size, 6, none⟩) lS).trans z6, (kd.cell (p := ⟨wr.heap.size, 7, none⟩) lS).trans z7, kd⟩)
          have HC := Lib.hid hC
          have HFn0 : ∀ W : World, Below ((wr.alloc (.cells (tmCells T) 80))).heap.size ((wr.alloc (.cells (tmCells T) 80))) W → Calls Tryz.prog 159 #[.slice xa G.n xc, .int .i64 (i : Int)] W (fun e w'' => e = .returned (.int .i64 r) ∧ Below W.heap.size W w'') := fun W hW => HF.out W (ks.trans (hW.mono ks.size))
          have HCall0 := Lib.hid (show ∀ w', C w' → Calls Tryz.prog 159 #[.slice xa G.n xc, .int .i64 (i : Int)] w' (fun e w'' => e = .returned (.int .i64 r) ∧ C w'') from fun w' hw' => (HFn0 w' ((HC.out w').1 hw').2.2.2.2.2.2.2.2.2.2).mono (fun e w'' hx => ⟨hx.1, HCin.out _ ((((HC.out w').1 hw').2.2.2.2.2.2.2.2.2.2).trans (hx.2.mono (((HC.out w').1 hw').2.2.2.2.2.2.2.2.2.2).size))⟩))
          clear hC HFn0
          go_wp2_with fail
          refine region_quietC (C := C) (by kernel_rfl) (by kernel_rfl) (HCin.out _ (Below.refl _ _).drew) ?_
          repeat (first
            | go_big_quiet_skip
            | (go_big_quiet_want; go_big_quiet_op; go_big_quiet_on)
            | (refine quiet_take (v := ?_) (by rfl) ?_ ?_
               rotate_left
               · intro w' hw'
                 obtain ⟨q0, q1, q2, q3, q4, q5, q6, q7, q8, q9, hbel⟩ := (HC.out w').1 hw'
                 go_simp
                 first
                   | done
                   | exact rfl
                   | exact HCall0.out w' hw'
               simp only [Act.put, List.setIfInBounds_toArray, List.set_cons_zero, List.set_cons_succ]))
          refine wpQuiet_nil ?_
          intro wq hwq
          obtain ⟨q0, q1, q2, q3, q4, q5, q6, q7, q8, q9, kd⟩ := (HC.out wq).1 hwq
          clear hwq HCall0 HC HCin
          have kn := ks.trans (kd.mono ks.size)
          go_wp2
          exact ⟨⟨i + 1, by omega, by go_num, HN, kn⟩, by simp only [intOf]; omega⟩
        · have HBAD := Lib.hid (show allB (placeOkB M) M.tn = false from allB_bad (i := i) (by rw [HB.out, hr0]; rfl) _ hlt)
          obtain ⟨C, hC⟩ : ∃ C : World → Prop, ∀ w', C w' ↔ (w'.cell? ⟨mb, 5, none⟩ = some (.slice (some ⟨pb, po, none⟩) M.pn qc) ∧ w'.cell? ⟨pb, po + T.pl.toNat * 4 + 1, none⟩ = some (.slice xa G.n xc) ∧ w'.cell? ⟨wr.heap.size, 0, none⟩ = some (.int .i64 T.st) ∧ w'.cell? ⟨wr.heap.size, 1, none⟩ = some (.int .i64 T.wh) ∧ w'.cell? ⟨wr.heap.size, 2, none⟩ = some (.int .i64 T.nx) ∧ w'.cell? ⟨wr.heap.size, 3, none⟩ = some (.int .i64 T.pe) ∧ w'.cell? ⟨wr.heap.size, 4, none⟩ = some (.int .i64 T.pl) ∧ w'.cell? ⟨wr.heap.size, 5, none⟩ = some (.int .i64 T.ge) ∧ w'.cell? ⟨wr.heap.size, 6, none⟩ = some (.int .i64 T.ki) ∧ w'.cell? ⟨wr.heap.size, 7, none⟩ = some (.int .i64 T.ma) ∧ Below ((wr.alloc (.cells (tmCells T) 80))).heap.size ((wr.alloc (.cells (tmCells T) 80))) w') := ⟨_, fun _ => Iff.rfl⟩
          have HCin := Lib.hid (show ∀ w', Below ((wr.alloc (.cells (tmCells T) 80))).heap.size ((wr.alloc (.cells (tmCells T) 80))) w' → C w' from fun w' kd => (hC w').2 ⟨(kd.cell (p := ⟨mb, 5, none⟩) lM).trans m5, (kd.cell (p := ⟨pb, po + T.pl.toNat * 4 + 1, none⟩) lP).trans p1, (kd.cell (p := ⟨wr.heap.size, 0, none⟩) lS).trans z0, (kd.cell (p := ⟨wr.heap.size, 1, none⟩) lS).trans z1, (kd.cell (p := ⟨wr.heap.size, 2, none⟩) lS).trans z2, (kd.cell (p := ⟨wr.heap.size, 3, none⟩) lS).trans z3, (kd.cell (p := ⟨wr.heap.size, 4, none⟩) lS).trans z4, (kd.cell (p := ⟨wr.heap.size, 5, none⟩) lS).trans z5, (kd.cell (p := ⟨wr.heap.size, 6, none⟩) lS).trans z6, (kd.cell (p := ⟨wr.heap.size, 7, none⟩) lS).trans z7, kd⟩)
          have HC := Lib.hid hC
          have HFn0 : ∀ W : World, Below ((wr.alloc (.cells (tmCells T) 80))).heap.size ((wr.alloc (.cells (tmCells T) 80))) W → Calls Tryz.prog 159 #[.slice xa G.n xc, .int .i64 (i : Int)] W (fun e w'' => e = .returned (.int .i64 r) ∧ Below W.heap.size W w'') := fun W hW => HF.out W (ks.trans (hW.mono ks.size))
          have HCall0 := Lib.hid (show ∀ w', C w' → Calls Tryz.prog 159 #[.slice xa G.n xc, .int .i64 (i : Int)] w' (fun e w'' => e = .returned (.int .i64 r) ∧ C w'') from fun w' hw' => (HFn0 w' ((HC.out w').1 hw').2.2.2.2.2.2.2.2.2.2).mono (fun e w'' hx => ⟨hx.1, HCin.out _ ((((HC.out w').1 hw').2.2.2.2.2.2.2.2.2.2).trans (hx.2.mono (((HC.out w').1 hw').2.2.2.2.2.2.2.2.2.2).size))⟩))
          clear hC HFn0
          go_wp2_with fail
          refine region_quietC (C := C) (by kernel_rfl) (by kernel_rfl) (HCin.out _ (Below.refl _ _).drew) ?_
          repeat (first
            | go_big_quiet_skip
            | (go_big_quiet_want; go_big_quiet_op; go_big_quiet_on)
            | (refine quiet_take (v := ?_) (by rfl) ?_ ?_
               rotate_left
               · intro w' hw'
                 obtain ⟨q0, q1, q2, q3, q4, q5, q6, q7, q8, q9, hbel⟩ := (HC.out w').1 hw'
                 go_simp
                 first
                   | done
                   | exact rfl
                   | exact HCall0.out w' hw'
               simp only [Act.put, List.setIfInBounds_toArray, List.set_cons_zero, List.set_cons_succ]))
          refine wpQuiet_nil ?_
          intro wq hwq
          obtain ⟨q0, q1, q2, q3, q4, q5, q6, q7, q8, q9, kd⟩ := (HC.out wq).1 hwq
          clear hwq HCall0 HC HCin
          go_wp2
          go_ret
          exact ⟨ret_bool' HBAD.out.symm, ks.trans (kd.mono ks.size)⟩
    · have hin : i = M.tn := by omega
      have HIN := Lib.hid hin
      have hlt2 : ¬ (i : Int) < (M.tn : Int) := by omega
      clear hin
      go_wp2
      go_ret
      exact ⟨ret_bool' (by rw [← HIN.out, hok.out]), kw⟩

end Go.Proofs.YtflekodaiejflaaGreatDoor

/-
  The program's generic list that is told what is less (chapter 2), at slots: made from a list; is it in order?
-/
namespace Go.Proofs.YtflekodaiejflaaGreatDoor
open Go.RowKit Go.Joins
set_option linter.unusedVariables false
set_option linter.unusedSimpArgs false

/-- a heap made from a list -/
def NewHeap (n : Nat) (f : Slots) (w : World) (e : Ending) (w' : World) : Prop := ∃ v, e = .returned (heapV v) ∧ OwnRow w' w.heap.size v n f ∧ Below w.heap.size w w'

set_option maxRecDepth 100000 in
set_option maxHeartbeats 1000000 in
theorem heapFrom_any {v : Value} {n : Nat} {f : Slots} {w : World} (hn : n ≤ 1048576) (h : RowAt w v n f) :
    Calls Tryz.prog 165 #[v, dueV] w (NewHeap n f w) := by
  have k0 := (Below.refl w.heap.size w).alloc (Nat.le_refl _) (.cells #[.slice none 0 0, .nilFunc] 192)
  have hsz : (w.alloc (.cells #[.slice none 0 0, .nilFunc] 192)).heap.size = w.heap.size + 1 := by simp
  have HB := Lib.hid (heap_alloc_new w (.cells #[.slice none 0 0, .nilFunc] 192))
  have h0 := h.below k0
  have H := Lib.hid (h0.below ((Below.refl _ _).alloc (Nat.le_refl _) (.cells #[] 133)))
  have ho := Lib.hid (World.ownsRow_made (w.alloc (.cells #[.slice none 0 0, .nilFunc] 192)) (base := (w.alloc (.cells #[.slice none 0 0, .nilFunc] 192)).heap.size) (e := 133) (size := 2) #[] 0 (Nat.le_refl _) (Nat.zero_le _) rfl)
  have k1 := k0.alloc (Nat.le_of_lt (show w.heap.size < (w.alloc (.cells #[.slice none 0 0, .nilFunc] 192)).heap.size by simp)) (.cells #[] 133)
  have hB1 : w.heap.size + 1 ≤ ((w.alloc (.cells #[.slice none 0 0, .nilFunc] 192)).alloc (.cells #[] 133)).heap.size := by simp
  rw [hsz] at ho
  clear h h0
  go_enter Tryz.func165, Tryz.ntmps165
  go_wp2_with (first | (at_builtin; refine wpList_append_slots rfl (.tmp 5) (.tmp 6) rfl (w.heap.size + 1) (.slice (some ⟨w.heap.size + 1, 0, none⟩) 0 0) 0 f rfl ho.out v n f rfl H.out (by omega) hB1 ?_; intro v' w' hown hg _; rw [append_zero, Nat.zero_add] at hown; have hO := own_of_row hown; clear hown; obtain ⟨a', cap', hvv⟩ := hO.row.form; subst hvv; have hkk := b_grown hg (Nat.le_refl _) hB1; have hbl := (hkk.block _ (Nat.lt_succ_self _)).trans ((Below.heap_alloc _ (.cells #[] 133) w.heap.size (by omega)).trans HB.out); have c0 := cell_of_block hbl 0; have c1 := cell_of_block hbl 1; have g0 := unfrozen_of_block hbl 0; have g1 := unfrozen_of_block hbl 1))
  have hO2 := ((hO.set (Nat.lt_succ_self _) 0 (.slice a' n cap')).set (Nat.lt_succ_self _) 1 dueV).mono (Nat.le_succ _)
  exact bodyPost_ret (v := heapV (.slice a' n cap')) (by simp [results, Tryz.results165, go_sem, c0, c1]) rfl
    ⟨.slice a' n cap', rfl, hO2, ((k1.trans (hkk.mono (Nat.le_succ _))).setCell (p := ⟨w.heap.size, 0, none⟩) (Nat.le_refl _) _).setCell (p := ⟨w.heap.size, 1, none⟩) (Nat.le_refl _) _⟩

end Go.Proofs.YtflekodaiejflaaGreatDoor

/-
  The program's generic list that is told what is less (chapter 2), at slots: in order, raised, sunk.
-/
namespace Go.Proofs.YtflekodaiejflaaGreatDoor
open Go.RowKit Go.Joins
set_option linter.unusedVariables false
set_option linter.unusedSimpArgs false

set_option maxRecDepth 100000 in
set_option maxHeartbeats 1000000 in
theorem hInOrder_any {v : Value} {n : Nat} {f : Slots} {w : World} (hn : n ≤ 1048576) (h : RowAt w v n f) :
    Calls Tryz.prog 167 #[heapV v] w fun e w' => e = .returned (.bool (heapFrom f n 1)) ∧ Below w.heap.size w w' := by
  obtain ⟨a, cap, hv⟩ := h.form
  have hv2 : ∃ a cap, v = .slice a n cap := ⟨a, cap, hv⟩
  have k0 := (Below.refl w.heap.size w).alloc (Nat.le_refl _) (.cells #[v, dueV] 192)
  have H := Lib.hid (h.below k0)
  have HB := Lib.hid (heap_alloc_new w (.cells #[v, dueV] 192))
  have hs0 : w.heap.size < (w.alloc (.cells #[v, dueV] 192)).heap.size := by simp
  clear h
  subst hv
  go_enter Tryz.func167, Tryz.ntmps167
  go_wp2_with fail
  go_loopw [3] (fun i wi => ∃ k : Nat, 1 ≤ k ∧ i = .int .i64 k ∧ k ≤ n + 1 ∧ Below (w.alloc (.cells #[.slice a n cap, dueV] 192)).heap.size (w.alloc (.cells #[.slice a n cap, dueV] 192)) wi ∧ Hid (heapFrom f n 1 = heapFrom f n k)) (fun i _ => n + 1 - (intOf i).toNat)
  case atStart => exact ⟨1, Nat.le_refl _, rfl, by omega, Below.refl _ _, Lib.hid rfl⟩
  case round =>
    obtain ⟨k, hk1, rfl, hkn, hbi, hf⟩ := hrel
    have hBi := b_block hbi HB.out hs0
    have c0 := cell_of_block hBi 0
    have c1 := cell_of_block hBi 1
    have hri := H.out.below hbi
    go_wp2_with fail
    go_at_call 172; refine (hSize_any (Nat.le_succ_of_le hn) hv2).mono ?_; rintro e w1 ⟨rfl, hb⟩
    have hB1 := b_block hb hBi (Nat.lt_of_lt_of_le hs0 hbi.size)
    have d0 : w1.cell? ⟨w.heap.size, 0, none⟩ = some (.slice a n cap) := cell_of_block hB1 0
    have d1 : w1.cell? ⟨w.heap.size, 1, none⟩ = some dueV := cell_of_block hB1 1
    have hl1 := lt_of_block hB1
    have hr1 := hri.below hb
    have hb1 := hbi.trans (hb.mono hbi.size)
    clear hri hB1 hbi c0 c1 hb hBi
    by_cases hlt : k < n
    · obtain ⟨p, hp⟩ : ∃ p : Nat, p = (k - 1) / 4 := ⟨_, rfl⟩
      have e2 : ((k : Int) - 1).tdiv 4 = (p : Int) := by
        rw [hp, show ((k : Int) - 1) = ((k - 1 : Nat) : Int) by omega, Int.tdiv_eq_ediv_of_nonneg (by omega)]; omega
      have b1 : p < n := by omega
      have b2 : (k : Int) < (n : Int) := by omega
      have p1 : -9223372036854775808 < (k : Int) := by omega
      have p2 : (k : Int) < 9223372036854775808 := by omega
      by_cases hlo : (f k).2 < (f p).2
      · have hd : decide ((f k).2 < (f p).2) = true := by simpa using hlo
        have HF := Lib.hid (show heapFrom f n 1 = false by rw [hf.out, heapFrom_bad hlt (hp ▸ hlo)])
        clear hlo hf hp
        go_wp2_with fail
        go_region_held3 (fun w' => w'.cell? ⟨w.heap.size, 0, none⟩ = some (.slice a n cap) ∧ w'.cell? ⟨w.heap.size, 1, none⟩ = some dueV)
          (first | exact ⟨d0, d1⟩ | exact ⟨y0, y1⟩ | go_keep)
          (first
            | (go_at_call 174; refine (parentOf_any _ _ p1 p2).mono ?_; rw [e2]; rintro e w' ⟨rfl, rfl⟩)
            | (go_at_call 173; refine (hLess_is true hd (Nat.le_succ_of_le hn) hlt b1 hr1.drew).mono ?_; rintro e w2 ⟨rfl, hb⟩
               have y0 := (hb.cell (p := ⟨w.heap.size, 0, none⟩) hl1).trans d0; have y1 := (hb.cell (p := ⟨w.heap.size, 1, none⟩) hl1).trans d1
               have hb2 := hb1.drew.trans (hb.mono hb1.drew.size)))
        all_goals
          clear d0 d1 y0 y1 hr1 hb1 hb
          go_wp2
          go_ret
          exact ⟨ret_bool HF.out.symm, k0.trans (hb2.mono k0.size)⟩
      · have hd : decide ((f k).2 < (f p).2) = false := by simpa using hlo
        have HF := Lib.hid (hf.out.trans (heapFrom_good hlt (hp ▸ hlo)))
        clear hlo hf hp
        go_wp2_with fail
        go_region_held3 (fun w' => w'.cell? ⟨w.heap.size, 0, none⟩ = some (.slice a n cap) ∧ w'.cell? ⟨w.heap.size, 1, none⟩ = some dueV)
          (first | exact ⟨d0, d1⟩ | exact ⟨y0, y1⟩ | go_keep)
          (first
            | (go_at_call 174; refine (parentOf_any _ _ p1 p2).mono ?_; rw [e2]; rintro e w' ⟨rfl, rfl⟩)
            | (go_at_call 173; refine (hLess_is false hd (Nat.le_succ_of_le hn) hlt b1 hr1.drew).mono ?_; rintro e w2 ⟨rfl, hb⟩
               have y0 := (hb.cell (p := ⟨w.heap.size, 0, none⟩) hl1).trans d0; have y1 := (hb.cell (p := ⟨w.heap.size, 1, none⟩) hl1).trans d1
               have hb2 := hb1.drew.trans (hb.mono hb1.drew.size)))
        all_goals
          clear d0 d1 y0 y1 hr1 hb1 hb
          go_wp2
          exact ⟨⟨k + 1, by omega, by go_num, by omega, hb2, HF⟩, by simp [intOf]; omega⟩
    · have HF := Lib.hid (hf.out.trans (heapFrom_out hlt))
      clear hf
      go_wp2
      go_ret
      exact ⟨ret_bool HF.out.symm, k0.trans (hb1.mono k0.size)⟩

end Go.Proofs.YtflekodaiejflaaGreatDoor

/-
  The program's generic list that is told what is less (chapter 2), at slots: raised.
-/
namespace Go.Proofs.YtflekodaiejflaaGreatDoor
open Go.RowKit Go.Joins
set_option linter.unusedVariables false
set_option linter.unusedSimpArgs false

/-- p is k's parent -/
def Par (k p : Nat) : Prop := 0 < k ∧ k ≤ 1048576 ∧ p = (k - 1) / 4
end Go.Proofs.YtflekodaiejflaaGreatDoor

/-
  The program's generic list that is told what is less (chapter 2), at slots: sunk.
-/
namespace Go.Proofs.YtflekodaiejflaaGreatDoor
open Go.RowKit Go.Joins
set_option linter.unusedVariables false
set_option linter.unusedSimpArgs false

end Go.Proofs.YtflekodaiejflaaGreatDoor

/-
  The program's own functions on heaps (chapter 2): what HeapOk, RaisedFrom and SunkFrom answer.
-/
namespace Go.Proofs.YtflekodaiejflaaGreatDoor
open Go.RowKit Go.Joins
set_option linter.unusedVariables false
set_option linter.unusedSimpArgs false

set_option maxRecDepth 100000 in
set_option maxHeartbeats 1000000 in
theorem iHeapOk_holds : AsksB 154 heapB := by
  intro v n f w hn h
  obtain ⟨a, cap, rfl⟩ := h.form
  have HR := Lib.hid h
  clear h
  by_cases h30 : n ≤ 30
  · have hle : (n : Int) ≤ 30 := by omega
    have hd : heapB f n = heapFrom f n 1 := by rw [heapB, decide_eq_true h30, Bool.and_true]
    rw [hd]
    cases ho : heapFrom f n 1
    all_goals
      have HO := Lib.hid ho
      clear hd ho
      go_enter Tryz.func154, Tryz.ntmps154
      go_wp2_with fail
      go_at_call 165; refine (heapFrom_any hn HR.out).mono ?_; rintro e w1 ⟨v1, rfl, hO, hb⟩
      go_wp2_with fail
      go_at_call 167; refine (hInOrder_any hn hO.row).mono ?_; rw [HO.out]; rintro e w2 ⟨rfl, hb2⟩
      have k2 := hb.trans (hb2.mono hb.size)
      clear hO hb hb2 HO
      go_wp2
      go_ret
      exact ⟨rfl, k2⟩
  · have hle : ¬ (n : Int) ≤ 30 := by omega
    have hd2 : decide (n ≤ 30) = false := by simp; omega
    have hd : heapB f n = false := by rw [heapB, hd2, Bool.and_false]
    rw [hd]
    clear hd
    go_enter Tryz.func154, Tryz.ntmps154
    go_wp2
    go_ret
    exact ⟨rfl, Below.refl _ _⟩

end Go.Proofs.YtflekodaiejflaaGreatDoor

/-
  The exact laws on processors, told what the program's own functions answer.
-/
namespace Go.Proofs.YtflekodaiejflaaGreatDoor
open Go.RowKit Go.Joins
set_option linter.unusedVariables false
set_option linter.unusedSimpArgs false

/-- what the program's WakeOf and ProcOk are to answer -/
def AsksW (fn : FuncId) : Prop := ∀ (v : Value) (n : Nat) (f : Slots) (l e d : Int) (w : World), n ≤ 1048576 → RowAt w v n f → Calls Tryz.prog fn #[prV v l e d] w fun x w' => x = .returned (.int .i64 (wakeI f n e)) ∧ Below w.heap.size w w'
def AsksR (fn : FuncId) : Prop := ∀ (a b c : Int) (v : Value) (n : Nat) (f : Slots) (l e d : Int) (w : World), n ≤ 1048576 → RowAt w v n f → Calls Tryz.prog fn #[.agg #[.int .i64 a, .int .i64 b, .int .i64 c], prV v l e d] w fun x w' => x = .returned (.bool (procOkB a b c f n l e d)) ∧ Below w.heap.size w w'

end Go.Proofs.YtflekodaiejflaaGreatDoor

/-
  Processors, in the program (chapter 4): no Id twice, right, when to wake.
-/
namespace Go.Proofs.YtflekodaiejflaaGreatDoor
open Go.RowKit Go.Joins
set_option linter.unusedVariables false
set_option linter.unusedSimpArgs false

theorem diffTo_iff {f : Slots} {i : Nat} : ∀ {k : Nat}, diffTo f i k = true ↔ ∀ q, q < k → (f q).1 ≠ (f i).1
  | 0 => by simp [diffTo]
  | k + 1 => by
    rw [diffTo, Bool.and_eq_true, diffTo_iff]
    constructor
    · rintro ⟨h1, h2⟩ q hq
      by_cases e : q = k
      · subst e
        intro h
        rw [h] at h2
        simp at h2
      · exact h1 q (by omega)
    · intro h
      refine ⟨fun q hq => h q (by omega), ?_⟩
      have := h k (by omega)
      simp only [Bool.not_eq_true', beq_eq_false_iff_ne, ne_eq]
      exact fun e => this e.symm
theorem find_past {f : Slots} {n : Nat} {id : Int} : ∀ j, j ≤ n → (∀ q, q < j → (f q).1 ≠ id) → findFrom f n id 0 = findFrom f n id j
  | 0, _, _ => rfl
  | j + 1, hj, h => by rw [find_past j (by omega) fun q hq => h q (by omega), findFrom_next (by omega) (h j (by omega))]
theorem find_self {f : Slots} {n k : Nat} (hk : k < n) (h : diffTo f k k = true) : findFrom f n (f k).1 0 = k := by
  rw [find_past k (Nat.le_of_lt hk) (diffTo_iff.1 h), findFrom_here hk rfl]
theorem find_other {f : Slots} {n k : Nat} (hk : k < n) (h : diffTo f k k = false) : findFrom f n (f k).1 0 ≠ k := by
  have hex : ¬ ∀ q, q < k → (f q).1 ≠ (f k).1 := fun hh => by rw [diffTo_iff.2 hh] at h; cases h
  have : ∀ c j, k - j ≤ c → j ≤ k → (∀ q, q < j → (f q).1 ≠ (f k).1) → findFrom f n (f k).1 0 ≠ k := by
    intro c
    induction c with
    | zero => intro j h1 h2 h3; exact absurd (show ∀ q, q < k → (f q).1 ≠ (f k).1 from fun q hq => h3 q (by omega)) hex
    | succ c ih =>
      intro j h1 h2 h3
      by_cases e : j = k
      · subst e; exact absurd h3 hex
      by_cases hj : (f j).1 = (f k).1
      · rw [find_past j (by omega) h3, findFrom_here (by omega) hj]
        omega
      · refine ih (j + 1) (by omega) (by omega) fun q hq => ?_
        by_cases e2 : q = j
        · subst e2; exact hj
        · exact h3 q (by omega)
  exact this k 0 (by omega) (Nat.zero_le _) fun q hq => absurd hq (Nat.not_lt_zero _)

set_option maxRecDepth 100000 in
set_option maxHeartbeats 1000000 in
theorem noIdTwice_any {v : Value} {n : Nat} {f : Slots} {w : World} (hn : n ≤ 1048576) (h : RowAt w v n f) :
    Calls Tryz.prog 155 #[v] w fun x w' => x = .returned (.bool (diffAll f n)) ∧ Below w.heap.size w w' := by
  obtain ⟨a, cap, hv⟩ := h.form
  have HR := Lib.hid h
  clear h
  subst hv
  go_enter Tryz.func155, Tryz.ntmps155
  go_wp2_with fail
  go_loopw [7] (fun i wr => ∃ k : Nat, k ≤ n ∧ i = .int .i64 k ∧ Below w.heap.size w wr ∧ Hid (diffAll f k = true)) (fun i _ => n - (intOf i).toNat)
  case atStart => exact ⟨0, Nat.zero_le _, rfl, Below.refl _ _, Lib.hid rfl⟩
  case round =>
    obtain ⟨k, hk, rfl, hbw, hd⟩ := hrel
    by_cases hlt : k < n
    · have hri := HR.out.below hbw
      rcases HR.out with ⟨h0, _⟩ | ⟨b, off, cap2, e2, hl, hc⟩
      · omega
      injection e2 with e2 _ e3
      subst e2
      have c0 := (hbw.cell (p := ⟨b, off + k * 2, none⟩) hl).trans (hc k hlt).1
      have c1 := (hbw.cell (p := ⟨b, off + k * 2 + 1, none⟩) hl).trans (hc k hlt).2
      have b2 : (k : Int) < (n : Int) := by omega
      clear hc
      have ka := hbw.alloc hbw.size (.cells #[.int .i64 (f k).1, .int .i64 (f k).2] 133)
      have hrA := hri.below ((Below.refl wr.heap.size wr).alloc (Nat.le_refl _) (.cells #[.int .i64 (f k).1, .int .i64 (f k).2] 133))
      subst e3
      cases hdk : diffTo f k k
      · have hbad := Lib.hid (show false = diffAll f n from (diffAll_bad (show diffAll f (k + 1) = false by rw [diffAll, hdk, Bool.and_false]) n (by omega)).symm)
        obtain ⟨r, hr⟩ : ∃ r, findM f n (f k).1 = r := ⟨_, rfl⟩
        have hne : (r != (k : Int)) = true := by
          have := find_other hlt hdk
          rw [bne_iff_ne, ← hr]
          exact this
        clear hd hdk
        go_wp2_with fail
        go_at_call 159; refine (iFindSlot_holds _ _ f _ _ hn hrA).mono ?_; rintro x w1 ⟨rfl, hb⟩
        rw [hr]
        clear hr
        go_wp2
        go_ret
        exact ⟨ret_bool hbad.out, ka.trans (hb.mono ka.size)⟩
      · have hnext := Lib.hid (show diffAll f (k + 1) = true by rw [diffAll, hd.out, hdk]; rfl)
        have hr : findM f n (f k).1 = k := find_self hlt hdk
        have hne : ((k : Int) != (k : Int)) = false := by simp
        clear hd hdk
        go_wp2_with fail
        go_at_call 159; refine (iFindSlot_holds _ _ f _ _ hn hrA).mono ?_; rintro x w1 ⟨rfl, hb⟩
        rw [hr]
        clear hr
        have kb := ka.trans (hb.mono ka.size)
        go_wp2
        exact ⟨⟨k + 1, by omega, by go_num, kb, hnext⟩, by simp only [intOf]; omega⟩
    · have hkn : k = n := by omega
      have hkd : decide (k < n) = false := by simp; omega
      have hall := Lib.hid (show true = diffAll f n by rw [← hkn]; exact hd.out.symm)
      clear hkn
      go_wp2
      go_ret
      exact ⟨ret_bool hall.out, hbw⟩

theorem procOkB_eq (a b c : Int) (f : Slots) (n : Nat) (l e d : Int) :
    procOkB a b c f n l e d = (planB a b c && ((((heapB f n && diffAll f n) && (l == -1 || workB a b c l)) && (e == -1 || inB e 0 1000000000)) && inB d 0 n)) := by
  unfold procOkB
  cases planB a b c <;> cases heapB f n <;> cases diffAll f n <;> cases (l == -1 || workB a b c l) <;> cases (e == -1 || inB e 0 1000000000) <;> cases inB d 0 n <;> rfl

/-- is it right, but for the plan? -/
def rightB (a b c : Int) (f : Slots) (n : Nat) (l e d : Int) : Bool :=
  (((heapB f n && diffAll f n) && (l == -1 || workB a b c l)) && (e == -1 || inB e 0 1000000000)) && inB d 0 n

set_option maxRecDepth 100000 in
set_option maxHeartbeats 2000000 in
theorem rightIn_any (a b c : Int) {v : Value} {n : Nat} {f : Slots} (l e d : Int) {w : World} (hn : n ≤ 1048576) (h : RowAt w v n f) :
    Calls Tryz.prog 143 #[pxV v l e d, .agg #[.int .i64 a, .int .i64 b, .int .i64 c]] w fun x w' => x = .returned (.bool (rightB a b c f n l e d)) ∧ Below w.heap.size w w' := by
  have k0 := (Below.refl w.heap.size w).alloc (Nat.le_refl _) (pxB v l e d)
  have k1 := k0.alloc k0.size (.cells #[.int .i64 a, .int .i64 b, .int .i64 c] 46)
  have HR := Lib.hid (h.below k1)
  have HX := Lib.hid (alloc_block (.cells #[.int .i64 a, .int .i64 b, .int .i64 c] 46) (heap_alloc_new w (pxB v l e d)))
  have hP := heap_alloc_new (w.alloc (pxB v l e d)) (.cells #[.int .i64 a, .int .i64 b, .int .i64 c] 46)
  rw [show (w.alloc (pxB v l e d)).heap.size = w.heap.size + 1 by simp] at hP
  have HP := Lib.hid hP
  have lX := lt_of_block HX.out
  have lP := lt_of_block hP
  clear hP
  obtain ⟨va, vc, hv⟩ := h.form
  have hform : ∃ a cap, v = .slice a n cap := h.form
  clear h
  subst hv
  have kw := Below.refl ((w.alloc (pxB (.slice va n vc) l e d)).alloc (.cells #[.int .i64 a, .int .i64 b, .int .i64 c] 46)).heap.size ((w.alloc (pxB (.slice va n vc) l e d)).alloc (.cells #[.int .i64 a, .int .i64 b, .int .i64 c] 46))
  cases h2 : heapB f n
  · rw [show rightB a b c f n l e d = false by simp only [rightB, h2]; rfl]
    go_enter Tryz.func143, Tryz.ntmps143
    go_wp2_with fail
    go_at_call 154; refine (iHeapOk_holds _ _ f _ hn HR.out).mono ?_; rintro x w1 ⟨rfl, hb⟩; rw [h2]
    replace kw := kw.trans (hb.mono kw.size)
    clear hb
    obtain ⟨x0, x1, x2, x3, _, _, _, _⟩ := four (b_block kw HX.out lX)
    go_wp2
    go_ret
    exact ⟨rfl, k1.trans (kw.mono k1.size)⟩
  cases h3 : diffAll f n
  · rw [show rightB a b c f n l e d = false by simp only [rightB, h2, h3]; rfl]
    go_enter Tryz.func143, Tryz.ntmps143
    go_wp2_with fail
    go_at_call 154; refine (iHeapOk_holds _ _ f _ hn HR.out).mono ?_; rintro x w1 ⟨rfl, hb⟩; rw [h2]
    replace kw := kw.trans (hb.mono kw.size)
    clear hb
    obtain ⟨x0, x1, x2, x3, _, _, _, _⟩ := four (b_block kw HX.out lX)
    obtain ⟨y0, y1, y2, _, _, _⟩ := three (b_block kw HP.out lP)
    go_wp2_with fail
    go_at_call 155; refine (noIdTwice_any hn (HR.out.below kw)).mono ?_; rintro x w1 ⟨rfl, hb⟩; rw [h3]
    replace kw := kw.trans (hb.mono kw.size)
    clear hb x0 x1 x2 x3 y0 y1 y2
    obtain ⟨x0, x1, x2, x3, _, _, _, _⟩ := four (b_block kw HX.out lX)
    go_wp2
    go_ret
    exact ⟨rfl, k1.trans (kw.mono k1.size)⟩
  cases h4 : (l == -1 || workB a b c l)
  · rw [show rightB a b c f n l e d = false by simp only [rightB, h2, h3, h4]; rfl]
    go_enter Tryz.func143, Tryz.ntmps143
    go_wp2_with fail
    go_at_call 154; refine (iHeapOk_holds _ _ f _ hn HR.out).mono ?_; rintro x w1 ⟨rfl, hb⟩; rw [h2]
    replace kw := kw.trans (hb.mono kw.size)
    clear hb
    obtain ⟨x0, x1, x2, x3, _, _, _, _⟩ := four (b_block kw HX.out lX)
    obtain ⟨y0, y1, y2, _, _, _⟩ := three (b_block kw HP.out lP)
    go_wp2_with fail
    go_at_call 155; refine (noIdTwice_any hn (HR.out.below kw)).mono ?_; rintro x w1 ⟨rfl, hb⟩; rw [h3]
    replace kw := kw.trans (hb.mono kw.size)
    clear hb x0 x1 x2 x3 y0 y1 y2
    obtain ⟨x0, x1, x2, x3, _, _, _, _⟩ := four (b_block kw HX.out lX)
    obtain ⟨y0, y1, y2, _, _, _⟩ := three (b_block kw HP.out lP)
    go_wp2_with fail
    go_at_call 156; refine (lockRight_any _ _ _ _ _ _ hform).mono ?_; rintro x w1 ⟨rfl, hb⟩; rw [h4]
    replace kw := kw.trans (hb.mono kw.size)
    clear hb x0 x1 x2 x3 y0 y1 y2
    obtain ⟨x0, x1, x2, x3, _, _, _, _⟩ := four (b_block kw HX.out lX)
    go_wp2
    go_ret
    exact ⟨rfl, k1.trans (kw.mono k1.size)⟩
  cases h5 : (e == -1 || inB e 0 1000000000)
  · rw [show rightB a b c f n l e d = false by simp only [rightB, h2, h3, h4, h5]; rfl]
    go_enter Tryz.func143, Tryz.ntmps143
    go_wp2_with fail
    go_at_call 154; refine (iHeapOk_holds _ _ f _ hn HR.out).mono ?_; rintro x w1 ⟨rfl, hb⟩; rw [h2]
    replace kw := kw.trans (hb.mono kw.size)
    clear hb
    obtain ⟨x0, x1, x2, x3, _, _, _, _⟩ := four (b_block kw HX.out lX)
    obtain ⟨y0, y1, y2, _, _, _⟩ := three (b_block kw HP.out lP)
    go_wp2_with fail
    go_at_call 155; refine (noIdTwice_any hn (HR.out.below kw)).mono ?_; rintro x w1 ⟨rfl, hb⟩; rw [h3]
    replace kw := kw.trans (hb.mono kw.size)
    clear hb x0 x1 x2 x3 y0 y1 y2
    obtain ⟨x0, x1, x2, x3, _, _, _, _⟩ := four (b_block kw HX.out lX)
    obtain ⟨y0, y1, y2, _, _, _⟩ := three (b_block kw HP.out lP)
    go_wp2_with fail
    go_at_call 156; refine (lockRight_any _ _ _ _ _ _ hform).mono ?_; rintro x w1 ⟨rfl, hb⟩; rw [h4]
    replace kw := kw.trans (hb.mono kw.size)
    clear hb x0 x1 x2 x3 y0 y1 y2
    obtain ⟨x0, x1, x2, x3, _, _, _, _⟩ := four (b_block kw HX.out lX)
    obtain ⟨y0, y1, y2, _, _, _⟩ := three (b_block kw HP.out lP)
    go_wp2_with fail
    go_at_call 157; refine (earliestRight_any _ _ _ hform).mono ?_; rintro x w1 ⟨rfl, hb⟩; rw [h5]
    replace kw := kw.trans (hb.mono kw.size)
    clear hb x0 x1 x2 x3 y0 y1 y2
    obtain ⟨x0, x1, x2, x3, _, _, _, _⟩ := four (b_block kw HX.out lX)
    go_wp2
    go_ret
    exact ⟨rfl, k1.trans (kw.mono k1.size)⟩
  cases h6 : inB d 0 n
  · rw [show rightB a b c f n l e d = false by simp only [rightB, h2, h3, h4, h5, h6]; rfl]
    go_enter Tryz.func143, Tryz.ntmps143
    go_wp2_with fail
    go_at_call 154; refine (iHeapOk_holds _ _ f _ hn HR.out).mono ?_; rintro x w1 ⟨rfl, hb⟩; rw [h2]
    replace kw := kw.trans (hb.mono kw.size)
    clear hb
    obtain ⟨x0, x1, x2, x3, _, _, _, _⟩ := four (b_block kw HX.out lX)
    obtain ⟨y0, y1, y2, _, _, _⟩ := three (b_block kw HP.out lP)
    go_wp2_with fail
    go_at_call 155; refine (noIdTwice_any hn (HR.out.below kw)).mono ?_; rintro x w1 ⟨rfl, hb⟩; rw [h3]
    replace kw := kw.trans (hb.mono kw.size)
    clear hb x0 x1 x2 x3 y0 y1 y2
    obtain ⟨x0, x1, x2, x3, _, _, _, _⟩ := four (b_block kw HX.out lX)
    obtain ⟨y0, y1, y2, _, _, _⟩ := three (b_block kw HP.out lP)
    go_wp2_with fail
    go_at_call 156; refine (lockRight_any _ _ _ _ _ _ hform).mono ?_; rintro x w1 ⟨rfl, hb⟩; rw [h4]
    replace kw := kw.trans (hb.mono kw.size)
    clear hb x0 x1 x2 x3 y0 y1 y2
    obtain ⟨x0, x1, x2, x3, _, _, _, _⟩ := four (b_block kw HX.out lX)
    obtain ⟨y0, y1, y2, _, _, _⟩ := three (b_block kw HP.out lP)
    go_wp2_with fail
    go_at_call 157; refine (earliestRight_any _ _ _ hform).mono ?_; rintro x w1 ⟨rfl, hb⟩; rw [h5]
    replace kw := kw.trans (hb.mono kw.size)
    clear hb x0 x1 x2 x3 y0 y1 y2
    obtain ⟨x0, x1, x2, x3, _, _, _, _⟩ := four (b_block kw HX.out lX)
    obtain ⟨y0, y1, y2, _, _, _⟩ := three (b_block kw HP.out lP)
    go_wp2_with fail
    go_at_call 158; refine (deletedRight_any _ _ _ hn hform).mono ?_; rintro x w1 ⟨rfl, hb⟩; rw [h6]
    replace kw := kw.trans (hb.mono kw.size)
    clear hb x0 x1 x2 x3 y0 y1 y2
    obtain ⟨x0, x1, x2, x3, _, _, _, _⟩ := four (b_block kw HX.out lX)
    go_wp2
    go_ret
    exact ⟨rfl, k1.trans (kw.mono k1.size)⟩
  rw [show rightB a b c f n l e d = true by simp only [rightB, h2, h3, h4, h5, h6]; rfl]
  go_enter Tryz.func143, Tryz.ntmps143
  go_wp2_with fail
  go_at_call 154; refine (iHeapOk_holds _ _ f _ hn HR.out).mono ?_; rintro x w1 ⟨rfl, hb⟩; rw [h2]
  replace kw := kw.trans (hb.mono kw.size)
  clear hb
  obtain ⟨x0, x1, x2, x3, _, _, _, _⟩ := four (b_block kw HX.out lX)
  obtain ⟨y0, y1, y2, _, _, _⟩ := three (b_block kw HP.out lP)
  go_wp2_with fail
  go_at_call 155; refine (noIdTwice_any hn (HR.out.below kw)).mono ?_; rintro x w1 ⟨rfl, hb⟩; rw [h3]
  replace kw := kw.trans (hb.mono kw.size)
  clear hb x0 x1 x2 x3 y0 y1 y2
  obtain ⟨x0, x1, x2, x3, _, _, _, _⟩ := four (b_block kw HX.out lX)
  obtain ⟨y0, y1, y2, _, _, _⟩ := three (b_block kw HP.out lP)
  go_wp2_with fail
  go_at_call 156; refine (lockRight_any _ _ _ _ _ _ hform).mono ?_; rintro x w1 ⟨rfl, hb⟩; rw [h4]
  replace kw := kw.trans (hb.mono kw.size)
  clear hb x0 x1 x2 x3 y0 y1 y2
  obtain ⟨x0, x1, x2, x3, _, _, _, _⟩ := four (b_block kw HX.out lX)
  obtain ⟨y0, y1, y2, _, _, _⟩ := three (b_block kw HP.out lP)
  go_wp2_with fail
  go_at_call 157; refine (earliestRight_any _ _ _ hform).mono ?_; rintro x w1 ⟨rfl, hb⟩; rw [h5]
  replace kw := kw.trans (hb.mono kw.size)
  clear hb x0 x1 x2 x3 y0 y1 y2
  obtain ⟨x0, x1, x2, x3, _, _, _, _⟩ := four (b_block kw HX.out lX)
  obtain ⟨y0, y1, y2, _, _, _⟩ := three (b_block kw HP.out lP)
  go_wp2_with fail
  go_at_call 158; refine (deletedRight_any _ _ _ hn hform).mono ?_; rintro x w1 ⟨rfl, hb⟩; rw [h6]
  replace kw := kw.trans (hb.mono kw.size)
  clear hb x0 x1 x2 x3 y0 y1 y2
  obtain ⟨x0, x1, x2, x3, _, _, _, _⟩ := four (b_block kw HX.out lX)
  go_wp2
  go_ret
  exact ⟨rfl, k1.trans (kw.mono k1.size)⟩


end Go.Proofs.YtflekodaiejflaaGreatDoor

/-
  Timers, in the program: statuses, numbers, place, next.
-/
namespace Go.Proofs.YtflekodaiejflaaGreatDoor
open Go.RowKit
set_option linter.unusedVariables false
set_option linter.unusedSimpArgs false

set_option maxHeartbeats 1000000 in
/-- is there such a status? -/
theorem known_any (s : Int) (w : World) :
    Calls Tryz.prog 164 #[.int .i64 s] w fun e w' => e = .returned (.bool (inB s 0 7)) ∧ w = w' := by
  by_cases h0 : s = 0
  · subst h0
    go_enter Tryz.func164, Tryz.ntmps164
    go_wp2_with (go_at_call 171; go_in)
    go_ret
    exact ⟨rfl, rfl⟩
  by_cases h1 : s = 1
  · subst h1
    go_enter Tryz.func164, Tryz.ntmps164
    go_wp2_with (go_at_call 171; go_in)
    go_ret
    exact ⟨rfl, rfl⟩
  by_cases h2 : s = 2
  · subst h2
    go_enter Tryz.func164, Tryz.ntmps164
    go_wp2_with (go_at_call 171; go_in)
    go_ret
    exact ⟨rfl, rfl⟩
  by_cases h3 : s = 3
  · subst h3
    go_enter Tryz.func164, Tryz.ntmps164
    go_wp2_with (go_at_call 171; go_in)
    go_ret
    exact ⟨rfl, rfl⟩
  by_cases h4 : s = 4
  · subst h4
    go_enter Tryz.func164, Tryz.ntmps164
    go_wp2_with (go_at_call 171; go_in)
    go_ret
    exact ⟨rfl, rfl⟩
  by_cases h5 : s = 5
  · subst h5
    go_enter Tryz.func164, Tryz.ntmps164
    go_wp2_with (go_at_call 171; go_in)
    go_ret
    exact ⟨rfl, rfl⟩
  by_cases h6 : s = 6
  · subst h6
    go_enter Tryz.func164, Tryz.ntmps164
    go_wp2_with (go_at_call 171; go_in)
    go_ret
    exact ⟨rfl, rfl⟩
  by_cases h7 : s = 7
  · subst h7
    go_enter Tryz.func164, Tryz.ntmps164
    go_wp2_with (go_at_call 171; go_in)
    go_ret
    exact ⟨rfl, rfl⟩
  have e : inB s 0 7 = false := by
    cases hx : inB s 0 7
    · rfl
    · have := inB_iff.1 hx; omega
  rw [e]
  have b0 : (s == 0) = false := by simpa using h0
  have b1 : (s == 1) = false := by simpa using h1
  have b2 : (s == 2) = false := by simpa using h2
  have b3 : (s == 3) = false := by simpa using h3
  have b4 : (s == 4) = false := by simpa using h4
  have b5 : (s == 5) = false := by simpa using h5
  have b6 : (s == 6) = false := by simpa using h6
  have b7 : (s == 7) = false := by simpa using h7
  go_enter Tryz.func164, Tryz.ntmps164
  go_wp2_with (go_at_call 171; go_in)
  go_ret
  exact ⟨rfl, rfl⟩

set_option maxHeartbeats 1000000 in
theorem stInHeap_any (s : Int) (w : World) :
    Calls Tryz.prog 163 #[.int .i64 s] w fun e w' => e = .returned (.bool (inHeapB s)) ∧ w = w' := by
  by_cases h1 : s = 1
  · subst h1
    go_enter Tryz.func163, Tryz.ntmps163
    go_wp2
    go_ret
    exact ⟨rfl, rfl⟩
  by_cases h3 : s = 3
  · subst h3
    go_enter Tryz.func163, Tryz.ntmps163
    go_wp2
    go_ret
    exact ⟨rfl, rfl⟩
  by_cases h4 : s = 4
  · subst h4
    go_enter Tryz.func163, Tryz.ntmps163
    go_wp2
    go_ret
    exact ⟨rfl, rfl⟩
  by_cases h5 : s = 5
  · subst h5
    go_enter Tryz.func163, Tryz.ntmps163
    go_wp2
    go_ret
    exact ⟨rfl, rfl⟩
  by_cases h6 : s = 6
  · subst h6
    go_enter Tryz.func163, Tryz.ntmps163
    go_wp2
    go_ret
    exact ⟨rfl, rfl⟩
  have e : inHeapB s = false := by simp [inHeapB, h1, h3, h4, h5, h6]
  rw [e]
  have b1 : (s == 1) = false := by simpa using h1
  have b3 : (s == 3) = false := by simpa using h3
  have b4 : (s == 4) = false := by simpa using h4
  have b5 : (s == 5) = false := by simpa using h5
  have b6 : (s == 6) = false := by simpa using h6
  go_enter Tryz.func163, Tryz.ntmps163
  go_wp2
  go_ret
  exact ⟨rfl, rfl⟩

/-- a timer's numbers -/
def numB (t : Tm) : Bool := inB t.wh 0 1000000000 && (inB t.nx 0 1000000000 && (inB t.pe 0 1000000000 && (inB t.ge 0 100000 && (inB t.ki 0 1 && inB t.ma 0 1000000001))))
/-- the place, as the program tells it -/
def putB (a b c : Int) (t : Tm) : Bool := if t.st = 2 then procB a b c t.pl || t.pl == -1 else if inHeapB t.st then procB a b c t.pl else inB t.st 0 7 && t.pl == -1

set_option maxRecDepth 100000 in
set_option maxHeartbeats 2000000 in
theorem numbers_any (t : Tm) (w : World) :
    Calls Tryz.prog 151 #[tmV t] w fun e w' => e = .returned (.bool (numB t)) ∧ Below w.heap.size w w' := by
  have k0 := (Below.refl w.heap.size w).alloc (Nat.le_refl _) (.cells #[.int .i64 t.st, .int .i64 t.wh, .int .i64 t.nx, .int .i64 t.pe, .int .i64 t.pl, .int .i64 t.ge, .int .i64 t.ki, .int .i64 t.ma] 80)
  cases h0 : inB t.wh 0 1000000000
  · rw [show numB t = false by simp [numB, h0]]
    go_enter Tryz.func151, Tryz.ntmps151
    go_wp2_with (first
        | (go_at_call 140; refine (isTime_any _ _).mono ?_; rintro e w' ⟨rfl, rfl⟩)
        | (go_at_call 136; refine (within_any _ _ _ _).mono ?_; rintro e w' ⟨rfl, rfl⟩))
    go_ret
    exact ⟨rfl, k0⟩
  cases h1 : inB t.nx 0 1000000000
  · rw [show numB t = false by simp [numB, h0, h1]]
    go_enter Tryz.func151, Tryz.ntmps151
    go_wp2_with (first
        | (go_at_call 140; refine (isTime_any _ _).mono ?_; rintro e w' ⟨rfl, rfl⟩)
        | (go_at_call 136; refine (within_any _ _ _ _).mono ?_; rintro e w' ⟨rfl, rfl⟩))
    go_ret
    exact ⟨rfl, k0⟩
  cases h2 : inB t.pe 0 1000000000
  · rw [show numB t = false by simp [numB, h0, h1, h2]]
    go_enter Tryz.func151, Tryz.ntmps151
    go_wp2_with (first
        | (go_at_call 140; refine (isTime_any _ _).mono ?_; rintro e w' ⟨rfl, rfl⟩)
        | (go_at_call 136; refine (within_any _ _ _ _).mono ?_; rintro e w' ⟨rfl, rfl⟩))
    go_ret
    exact ⟨rfl, k0⟩
  cases h3 : inB t.ge 0 100000
  · rw [show numB t = false by simp [numB, h0, h1, h2, h3]]
    go_enter Tryz.func151, Tryz.ntmps151
    go_wp2_with (first
        | (go_at_call 140; refine (isTime_any _ _).mono ?_; rintro e w' ⟨rfl, rfl⟩)
        | (go_at_call 136; refine (within_any _ _ _ _).mono ?_; rintro e w' ⟨rfl, rfl⟩))
    go_ret
    exact ⟨rfl, k0⟩
  cases h4 : inB t.ki 0 1
  · rw [show numB t = false by simp [numB, h0, h1, h2, h3, h4]]
    go_enter Tryz.func151, Tryz.ntmps151
    go_wp2_with (first
        | (go_at_call 140; refine (isTime_any _ _).mono ?_; rintro e w' ⟨rfl, rfl⟩)
        | (go_at_call 136; refine (within_any _ _ _ _).mono ?_; rintro e w' ⟨rfl, rfl⟩))
    go_ret
    exact ⟨rfl, k0⟩
  cases h5 : inB t.ma 0 1000000001
  · rw [show numB t = false by simp [numB, h0, h1, h2, h3, h4, h5]]
    go_enter Tryz.func151, Tryz.ntmps151
    go_wp2_with (first
        | (go_at_call 140; refine (isTime_any _ _).mono ?_; rintro e w' ⟨rfl, rfl⟩)
        | (go_at_call 136; refine (within_any _ _ _ _).mono ?_; rintro e w' ⟨rfl, rfl⟩))
    go_ret
    exact ⟨rfl, k0⟩
  rw [show numB t = true by simp [numB, h0, h1, h2, h3, h4, h5]]
  go_enter Tryz.func151, Tryz.ntmps151
  go_wp2_with (first
      | (go_at_call 140; refine (isTime_any _ _).mono ?_; rintro e w' ⟨rfl, rfl⟩)
      | (go_at_call 136; refine (within_any _ _ _ _).mono ?_; rintro e w' ⟨rfl, rfl⟩))
  go_ret
  exact ⟨rfl, k0⟩

set_option maxRecDepth 100000 in
set_option maxHeartbeats 2000000 in
theorem next_any (t : Tm) (w : World) :
    Calls Tryz.prog 153 #[tmV t] w fun e w' => e = .returned (.bool (nextB t)) ∧ Below w.heap.size w w' := by
  have k0 := (Below.refl w.heap.size w).alloc (Nat.le_refl _) (.cells #[.int .i64 t.st, .int .i64 t.wh, .int .i64 t.nx, .int .i64 t.pe, .int .i64 t.pl, .int .i64 t.ge, .int .i64 t.ki, .int .i64 t.ma] 80)
  obtain ⟨st, wh, nx, pe, pl, ge, ki, ma⟩ := t
  by_cases h3 : st = 3
  · subst h3
    rw [show nextB ⟨3, wh, nx, pe, pl, ge, ki, ma⟩ = decide (nx < wh) by simp [nextB]]
    go_enter Tryz.func153, Tryz.ntmps153
    go_wp2
    go_ret
    exact ⟨rfl, k0⟩
  by_cases h4 : st = 4
  · subst h4
    rw [show nextB ⟨4, wh, nx, pe, pl, ge, ki, ma⟩ = decide (wh ≤ nx) by simp [nextB]]
    go_enter Tryz.func153, Tryz.ntmps153
    go_wp2
    go_ret
    exact ⟨rfl, k0⟩
  rw [show nextB ⟨st, wh, nx, pe, pl, ge, ki, ma⟩ = true by simp [nextB, h3, h4]]
  have b3 : (st == 3) = false := by simpa using h3
  have b4 : (st == 4) = false := by simpa using h4
  go_enter Tryz.func153, Tryz.ntmps153
  go_wp2
  go_ret
  exact ⟨rfl, k0⟩

end Go.Proofs.YtflekodaiejflaaGreatDoor

/-
  The draws: the code, a cursor over its bytes, and the numbers that it gives; nothing but its own block is written.
-/
namespace Go.Proofs.YtflekodaiejflaaGreatDoor
open Go.RowKit Go.Joins Go.ChangeShapes Go.WideShapes Go.ChangeAt
set_option linter.unusedVariables false
set_option linter.unusedSimpArgs false

/-! ### The code and the cursor -/
/-- the bytes of the code: no memory at all, or bytes that can be read, in a block below B -/
def CodeAt (w : World) (B : Nat) (sl : Value) (len : Nat) : Prop :=
  (len = 0 ∧ ∃ (a : Option Addr) (cap : Nat), sl = .slice a 0 cap) ∨ ∃ (b off cap : Nat) (zs : List Int), sl = .slice (some ⟨b, off, none⟩) len cap ∧ b < B ∧ B ≤ w.heap.size ∧ (∀ k, k < len → w.cell? ⟨b, off + k, none⟩ = some (.int .u8 (zs.getD k 0))) ∧ ∀ k, 0 ≤ zs.getD k 0 ∧ zs.getD k 0 ≤ 255
theorem CodeAt.kept {w w' : World} {B len g : Nat} {sl : Value} (h : CodeAt w B sl len) (hg : w.grownBy w' (some g)) (hB : B ≤ g) : CodeAt w' B sl len := by
  rcases h with h | ⟨b, off, cap, zs, h1, h2, h3, h4, h5⟩
  · exact .inl h
  · exact .inr ⟨b, off, cap, zs, h1, h2, Nat.le_trans h3 hg.size, fun k hk => (g_cell hg (by omega) (by omega) _).trans (h4 k hk), h5⟩
def ByteIn (g k : Nat) (w : World) (e : Ending) (w' : World) : Prop :=
  ∃ (x y : Int) (n : Nat), 0 ≤ x ∧ x ≤ 255 ∧ e = .returned (.int .i64 x) ∧ w' = (((w.setCell ⟨g, 2, none⟩ (.int .i64 y)).drewN n).setCell ⟨g, 1, none⟩ (.int .i64 ((k : Int) + 1)))
def ByteOut (g : Nat) (w : World) (e : Ending) (w' : World) : Prop :=
  ∃ (x y : Int) (n : Nat), 0 ≤ x ∧ x ≤ 255 ∧ e = .returned (.int .i64 x) ∧ w' = ((w.setCell ⟨g, 2, none⟩ (.int .i64 y)).drewN n)

/-! ### numbers from 0 on -/
theorem CodeAt.below {w w' : World} {B len : Nat} {sl : Value} (h : CodeAt w B sl len) (hb : Below B w w') : CodeAt w' B sl len := by
  rcases h with h | ⟨b, off, cap, zs, h1, h2, h3, h4, h5⟩
  · exact .inl h
  · exact .inr ⟨b, off, cap, zs, h1, h2, Nat.le_trans h3 hb.size, fun k hk => (hb.cell (p := ⟨b, off + k, none⟩) h2).trans (h4 k hk), h5⟩

end Go.Proofs.YtflekodaiejflaaGreatDoor

/-
  The draws: odd numbers, and plans.
-/
namespace Go.Proofs.YtflekodaiejflaaGreatDoor
open Go.RowKit Go.Joins
set_option linter.unusedVariables false
set_option linter.unusedSimpArgs false

end Go.Proofs.YtflekodaiejflaaGreatDoor

/-
  The draws of the chapter on timers.
-/
namespace Go.Proofs.YtflekodaiejflaaGreatDoor
open Go.RowKit Go.Joins
set_option linter.unusedVariables false
set_option linter.unusedSimpArgs false

abbrev tmO (t : Tm) (ty : TypeId) : Obj := .cells #[.int .i64 t.st, .int .i64 t.wh, .int .i64 t.nx, .int .i64 t.pe, .int .i64 t.pl, .int .i64 t.ge, .int .i64 t.ki, .int .i64 t.ma] ty
/-- a timer's eight cells -/
theorem eight_cells {w : World} {b : Nat} {t : Tm} {ty : TypeId} (h : w.heap[b]? = some (.cells #[.int .i64 t.st, .int .i64 t.wh, .int .i64 t.nx, .int .i64 t.pe, .int .i64 t.pl, .int .i64 t.ge, .int .i64 t.ki, .int .i64 t.ma] ty (0, 0))) :
    w.cell? ⟨b, 0, none⟩ = some (.int .i64 t.st) ∧ w.cell? ⟨b, 1, none⟩ = some (.int .i64 t.wh) ∧ w.cell? ⟨b, 2, none⟩ = some (.int .i64 t.nx) ∧ w.cell? ⟨b, 3, none⟩ = some (.int .i64 t.pe) ∧ w.cell? ⟨b, 4, none⟩ = some (.int .i64 t.pl) ∧ w.cell? ⟨b, 5, none⟩ = some (.int .i64 t.ge) ∧ w.cell? ⟨b, 6, none⟩ = some (.int .i64 t.ki) ∧ w.cell? ⟨b, 7, none⟩ = some (.int .i64 t.ma) :=
  ⟨cell_of_block h 0, cell_of_block h 1, cell_of_block h 2, cell_of_block h 3, cell_of_block h 4, cell_of_block h 5, cell_of_block h 6, cell_of_block h 7⟩
abbrev set8 (w : World) (b : Nat) (t : Tm) : World := ((((((((w.setCell ⟨b, 0, none⟩ (.int .i64 t.st)).setCell ⟨b, 1, none⟩ (.int .i64 t.wh)).setCell ⟨b, 2, none⟩ (.int .i64 t.nx)).setCell ⟨b, 3, none⟩ (.int .i64 t.pe)).setCell ⟨b, 4, none⟩ (.int .i64 t.pl)).setCell ⟨b, 5, none⟩ (.int .i64 t.ge)).setCell ⟨b, 6, none⟩ (.int .i64 t.ki)).setCell ⟨b, 7, none⟩ (.int .i64 t.ma))
end Go.Proofs.YtflekodaiejflaaGreatDoor
