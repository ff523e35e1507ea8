/-
  FnProcs, told what the program's own functions answer: the walk.
-/
import Derived.Test.YtnmaljieaflnmaaProcExact
import Derived.Test.YtnmaljieaflnmaaProcDraw4
namespace Go.Proofs.Ytnmaljieaflnmaa
open Go.RowKit Go.Joins
set_option linter.unusedVariables false

theorem CodeAt.top {w : World} {B len : Nat} {sl : Value} (h : CodeAt w B sl len) : CodeAt w w.heap.size sl len := by
  rcases h with h | ⟨b, off, cap, zs, h1, h2, h3, h4, h5⟩
  · exact .inl h
  · exact .inr ⟨b, off, cap, zs, h1, Nat.lt_of_lt_of_le h2 h3, Nat.le_refl _, h4, h5⟩
theorem minI_l (x y : Int) : minI x y ≤ x := by unfold minI; split <;> omega
theorem minI_r (x y : Int) : minI x y ≤ y := by unfold minI; split <;> omega
theorem minI_ge {x y z : Int} (h1 : z ≤ x) (h2 : z ≤ y) : z ≤ minI x y := by unfold minI; split <;> omega
theorem wake_none (f : Slots) {e : Int} (h : e < 0) : wakeI f 0 e = -1 := by
  show maxI e (-1) = -1
  unfold maxI; split <;> omega
theorem wake_some (f : Slots) {e : Int} (h : 0 ≤ e) : wakeI f 0 e = e := by
  show maxI e (-1) = e
  unfold maxI; split <;> omega
theorem wake_top (f : Slots) {n : Nat} {e : Int} (hn : n ≠ 0) (h : e < 0) : wakeI f n e = (f 0).2 := by
  unfold wakeI; rw [if_neg hn, if_pos h]
theorem wake_both (f : Slots) {n : Nat} {e : Int} (hn : n ≠ 0) (h : 0 ≤ e) : wakeI f n e = minI (f 0).2 e := by
  unfold wakeI; rw [if_neg hn, if_neg (by omega)]
/-- the top's Key is not below 0 -/
theorem low_top {f : Slots} {n : Nat} (h : lowHeap f n) (hn : 0 < n) : 0 ≤ (f 0).2 := by
  exact low_key h.2 hn

set_option maxRecDepth 100000 in
set_option maxHeartbeats 4000000 in
theorem procs_small (hR : AsksR 14) (hW : AsksW 13) {sl : Value} {len : Nat} {w : World} (hlen : len ≤ 4096) (hsl : ∃ a cap, sl = .slice a len cap) (hcode : CodeAt w w.heap.size sl len) :
    Calls Try.prog 3 #[sl] w fun x w' => x = .returned (.bool true) ∧ Below w.heap.size w w' := by
  have hcode0 := Lib.hid hcode
  obtain ⟨a0, cap0, rfl⟩ := hsl
  clear hcode
  go_enter Try.func3, Try.ntmps3
  go_wp2_with (go_at_call 10; go_in)
  go_at_call 11; refine (drawProcOk_any hlen hcode0.out).mono ?_; rintro x w1 ⟨a, b, c, v, n, f, l, e, d, rfl, hO, hn, kk⟩
  obtain ⟨va, vc, hv⟩ := hO.row.form
  subst hv
  have hPv := alloc_block (.cells #[.slice va n vc, .int .i64 l, .int .i64 e, .int .i64 d] 28) (heap_alloc_new w1 (.cells #[.int .i64 a, .int .i64 b, .int .i64 c] 25))
  have hXv := heap_alloc_new (w1.alloc (.cells #[.int .i64 a, .int .i64 b, .int .i64 c] 25)) (.cells #[.slice va n vc, .int .i64 l, .int .i64 e, .int .i64 d] 28)
  rw [show (w1.alloc (.cells #[.int .i64 a, .int .i64 b, .int .i64 c] 25)).heap.size = w1.heap.size + 1 by simp] at hXv
  replace hO := (hO.alloc (.cells #[.int .i64 a, .int .i64 b, .int .i64 c] 25)).alloc (.cells #[.slice va n vc, .int .i64 l, .int .i64 e, .int .i64 d] 28)
  have hs1 := kk.size
  replace kk := (kk.alloc kk.size (.cells #[.int .i64 a, .int .i64 b, .int .i64 c] 25)).alloc (by simp; omega) (.cells #[.slice va n vc, .int .i64 l, .int .i64 e, .int .i64 d] 28)
  have hsz : w1.heap.size + 2 ≤ ((w1.alloc (.cells #[.int .i64 a, .int .i64 b, .int .i64 c] 25)).alloc (.cells #[.slice va n vc, .int .i64 l, .int .i64 e, .int .i64 d] 28)).heap.size := by simp
  go_wp2_with fail
  go_at_call 12; refine (drawWakeOf_any hlen (hcode0.out.below kk).top).mono ?_; rintro x w2 ⟨v', n', f', l', e', d', rfl, hO', hL', hb⟩
  obtain ⟨va', vc', hv⟩ := hO'.row.form
  subst hv
  replace hPv := alloc_block (.cells #[.slice va' n' vc', .int .i64 l', .int .i64 e', .int .i64 d'] 28) (b_block hb hPv (lt_of_block hPv)); replace hXv := alloc_block (.cells #[.slice va' n' vc', .int .i64 l', .int .i64 e', .int .i64 d'] 28) (b_block hb hXv (lt_of_block hXv)); replace hO := (hO.below hb).alloc (.cells #[.slice va' n' vc', .int .i64 l', .int .i64 e', .int .i64 d'] 28)
  have hs2 := Nat.le_trans hsz hb.size
  replace kk := (kk.trans (hb.mono kk.size)).alloc (Nat.le_trans kk.size hb.size) (.cells #[.slice va' n' vc', .int .i64 l', .int .i64 e', .int .i64 d'] 28)
  have hYv := heap_alloc_new w2 (.cells #[.slice va' n' vc', .int .i64 l', .int .i64 e', .int .i64 d'] 28)
  replace hO' := hO'.alloc (.cells #[.slice va' n' vc', .int .i64 l', .int .i64 e', .int .i64 d'] 28)
  have hn30 : n' ≤ 30 := hL'.1.2
  obtain ⟨t0, t1, t2, t3, tf0, tf1, tf2, tf3⟩ := four hYv
  clear hb hsz
  go_wp2_with fail
  go_at_call 13; refine (hW _ _ _ _ _ _ _ (by omega) hO'.row).mono ?_; rintro x w4 ⟨rfl, hb⟩
  replace hPv := b_block hb hPv (lt_of_block hPv); replace hXv := b_block hb hXv (lt_of_block hXv); replace hYv := b_block hb hYv (lt_of_block hYv); replace hO := hO.below hb; replace hO' := hO'.below hb
  replace kk := kk.trans (hb.mono kk.size)
  clear hb t0 t1 t2 t3 tf0 tf1 tf2 tf3
  have l0 := lt_of_block hPv
  have l1 := lt_of_block hXv
  have l2 := lt_of_block hYv
  have k4 := (Below.refl w4.heap.size w4).drew
  have hself : (wakeI f' n' e' == wakeI f' n' e') = true := beq_self_eq_true _
  have RO := Lib.hid hO.row
  have RO' := Lib.hid hO'.row
  cases hB : procOkB a b c f n l e d
  · have HB := Lib.hid hB
    clear hB
    go_wp2_with fail
    go_region_held3 (fun w' => w'.cell? ⟨w1.heap.size, 0, none⟩ = some (.int .i64 a) ∧ w'.cell? ⟨w1.heap.size, 1, none⟩ = some (.int .i64 b) ∧ w'.cell? ⟨w1.heap.size, 2, none⟩ = some (.int .i64 c) ∧ w'.cell? ⟨w1.heap.size + 1, 0, none⟩ = some (.slice va n vc) ∧ w'.cell? ⟨w1.heap.size + 1, 1, none⟩ = some (.int .i64 l) ∧ w'.cell? ⟨w1.heap.size + 1, 2, none⟩ = some (.int .i64 e) ∧ w'.cell? ⟨w1.heap.size + 1, 3, none⟩ = some (.int .i64 d) ∧ w'.cell? ⟨w2.heap.size, 0, none⟩ = some (.slice va' n' vc') ∧ w'.cell? ⟨w2.heap.size, 1, none⟩ = some (.int .i64 l') ∧ w'.cell? ⟨w2.heap.size, 2, none⟩ = some (.int .i64 e') ∧ w'.cell? ⟨w2.heap.size, 3, none⟩ = some (.int .i64 d'))
      (exact ⟨(k4.cell (p := ⟨w1.heap.size, 0, none⟩) l0).trans (cell_of_block hPv 0), (k4.cell (p := ⟨w1.heap.size, 1, none⟩) l0).trans (cell_of_block hPv 1), (k4.cell (p := ⟨w1.heap.size, 2, none⟩) l0).trans (cell_of_block hPv 2), (k4.cell (p := ⟨w1.heap.size + 1, 0, none⟩) l1).trans (cell_of_block hXv 0), (k4.cell (p := ⟨w1.heap.size + 1, 1, none⟩) l1).trans (cell_of_block hXv 1), (k4.cell (p := ⟨w1.heap.size + 1, 2, none⟩) l1).trans (cell_of_block hXv 2), (k4.cell (p := ⟨w1.heap.size + 1, 3, none⟩) l1).trans (cell_of_block hXv 3), (k4.cell (p := ⟨w2.heap.size, 0, none⟩) l2).trans (cell_of_block hYv 0), (k4.cell (p := ⟨w2.heap.size, 1, none⟩) l2).trans (cell_of_block hYv 1), (k4.cell (p := ⟨w2.heap.size, 2, none⟩) l2).trans (cell_of_block hYv 2), (k4.cell (p := ⟨w2.heap.size, 3, none⟩) l2).trans (cell_of_block hYv 3)⟩)
      (first
        | (go_at_call 14; refine (hR _ _ _ _ _ _ _ _ _ _ (by omega) (RO.out.below k4)).mono ?_; rw [HB.out]; rintro x wz ⟨rfl, hb⟩; replace k4 := k4.trans (hb.mono k4.size); clear hb)
        | (go_at_call 15; refine (spProcOk_any _ _ _ _ _ _ (by omega) (RO.out.below k4)).mono ?_; rw [HB.out]; rintro x wz ⟨rfl, hb⟩; replace k4 := k4.trans (hb.mono k4.size); clear hb)
        | (go_at_call 16; refine (spWakeOf_any _ _ _ (by omega) (RO'.out.below k4)).mono ?_; rintro x wz ⟨rfl, hb⟩; replace k4 := k4.trans (hb.mono k4.size); clear hb))
    all_goals
      have kend := kk.trans (k4.mono kk.size)
      have hYe := b_block k4 hYv (lt_of_block hYv)
      have hOe := hO'.below k4
      obtain ⟨t0, t1, t2, t3, tf0, tf1, tf2, tf3⟩ := four hYe
      clear hPv hXv hYv hO hO' hYe tf0 tf1 tf2 tf3
      by_cases hn0 : n' = 0
      · subst hn0
        by_cases he : e' < 0
        · rw [wake_none f' he]
          have hec : decide (e' < 0) = true := by simpa using he
          clear hOe
          go_wp2
          go_ret
          exact ⟨rfl, kend⟩
        · rw [wake_some f' (by omega)]
          have hec : decide (e' < 0) = false := by simpa using he
          have hm : (e' == -1) = false := beq_eq_false_iff_ne.2 (by omega)
          have hle : decide (e' ≤ e') = true := by simp
          clear hOe
          go_wp2
          go_ret
          exact ⟨rfl, kend⟩
      · rcases hOe with ⟨h0, _⟩ | ⟨gl, cap, ev, hOe⟩
        · omega
        injection ev with ev1 ev2 ev3
        subst ev1 ev3
        obtain ⟨_, c1⟩ := hOe.cells (show 0 < n' by omega)
        simp only [Nat.zero_mul, Nat.zero_add] at c1
        have key := low_top hL' (by omega)
        have hni : ((n' : Int) == 0) = false := beq_eq_false_iff_ne.2 (by omega)
        have hnp : (0 : Int) < (n' : Int) := by omega
        clear hOe
        by_cases he : e' < 0
        · rw [wake_top f' hn0 he]
          have hec : decide (e' < 0) = true := by simpa using he
          generalize (f' 0).2 = z at c1 key ⊢
          have hm : (z == -1) = false := beq_eq_false_iff_ne.2 (by omega)
          have hle : decide (z ≤ z) = true := by simp
          go_wp2
          go_ret
          exact ⟨rfl, kend⟩
        · rw [wake_both f' hn0 (by omega)]
          have hec : decide (e' < 0) = false := by simpa using he
          have m1 := minI_l (f' 0).2 e'
          have m2 := minI_r (f' 0).2 e'
          have m3 := minI_ge key (show 0 ≤ e' by omega)
          generalize minI (f' 0).2 e' = y at m1 m2 m3 ⊢
          generalize (f' 0).2 = z at c1 key m1 ⊢
          have hm : (y == -1) = false := beq_eq_false_iff_ne.2 (by omega)
          have hle : decide (y ≤ z) = true := by simpa using m1
          have hle2 : decide (y ≤ e') = true := by simpa using m2
          go_wp2
          go_ret
          exact ⟨rfl, kend⟩
  · have HB := Lib.hid hB
    clear hB
    go_wp2_with fail
    go_region_held3 (fun w' => w'.cell? ⟨w1.heap.size, 0, none⟩ = some (.int .i64 a) ∧ w'.cell? ⟨w1.heap.size, 1, none⟩ = some (.int .i64 b) ∧ w'.cell? ⟨w1.heap.size, 2, none⟩ = some (.int .i64 c) ∧ w'.cell? ⟨w1.heap.size + 1, 0, none⟩ = some (.slice va n vc) ∧ w'.cell? ⟨w1.heap.size + 1, 1, none⟩ = some (.int .i64 l) ∧ w'.cell? ⟨w1.heap.size + 1, 2, none⟩ = some (.int .i64 e) ∧ w'.cell? ⟨w1.heap.size + 1, 3, none⟩ = some (.int .i64 d) ∧ w'.cell? ⟨w2.heap.size, 0, none⟩ = some (.slice va' n' vc') ∧ w'.cell? ⟨w2.heap.size, 1, none⟩ = some (.int .i64 l') ∧ w'.cell? ⟨w2.heap.size, 2, none⟩ = some (.int .i64 e') ∧ w'.cell? ⟨w2.heap.size, 3, none⟩ = some (.int .i64 d'))
      (exact ⟨(k4.cell (p := ⟨w1.heap.size, 0, none⟩) l0).trans (cell_of_block hPv 0), (k4.cell (p := ⟨w1.heap.size, 1, none⟩) l0).trans (cell_of_block hPv 1), (k4.cell (p := ⟨w1.heap.size, 2, none⟩) l0).trans (cell_of_block hPv 2), (k4.cell (p := ⟨w1.heap.size + 1, 0, none⟩) l1).trans (cell_of_block hXv 0), (k4.cell (p := ⟨w1.heap.size + 1, 1, none⟩) l1).trans (cell_of_block hXv 1), (k4.cell (p := ⟨w1.heap.size + 1, 2, none⟩) l1).trans (cell_of_block hXv 2), (k4.cell (p := ⟨w1.heap.size + 1, 3, none⟩) l1).trans (cell_of_block hXv 3), (k4.cell (p := ⟨w2.heap.size, 0, none⟩) l2).trans (cell_of_block hYv 0), (k4.cell (p := ⟨w2.heap.size, 1, none⟩) l2).trans (cell_of_block hYv 1), (k4.cell (p := ⟨w2.heap.size, 2, none⟩) l2).trans (cell_of_block hYv 2), (k4.cell (p := ⟨w2.heap.size, 3, none⟩) l2).trans (cell_of_block hYv 3)⟩)
      (first
        | (go_at_call 14; refine (hR _ _ _ _ _ _ _ _ _ _ (by omega) (RO.out.below k4)).mono ?_; rw [HB.out]; rintro x wz ⟨rfl, hb⟩; replace k4 := k4.trans (hb.mono k4.size); clear hb)
        | (go_at_call 15; refine (spProcOk_any _ _ _ _ _ _ (by omega) (RO.out.below k4)).mono ?_; rw [HB.out]; rintro x wz ⟨rfl, hb⟩; replace k4 := k4.trans (hb.mono k4.size); clear hb)
        | (go_at_call 16; refine (spWakeOf_any _ _ _ (by omega) (RO'.out.below k4)).mono ?_; rintro x wz ⟨rfl, hb⟩; replace k4 := k4.trans (hb.mono k4.size); clear hb))
    all_goals
      have kend := kk.trans (k4.mono kk.size)
      have hYe := b_block k4 hYv (lt_of_block hYv)
      have hOe := hO'.below k4
      obtain ⟨t0, t1, t2, t3, tf0, tf1, tf2, tf3⟩ := four hYe
      clear hPv hXv hYv hO hO' hYe tf0 tf1 tf2 tf3
      by_cases hn0 : n' = 0
      · subst hn0
        by_cases he : e' < 0
        · rw [wake_none f' he]
          have hec : decide (e' < 0) = true := by simpa using he
          clear hOe
          go_wp2
          go_ret
          exact ⟨rfl, kend⟩
        · rw [wake_some f' (by omega)]
          have hec : decide (e' < 0) = false := by simpa using he
          have hm : (e' == -1) = false := beq_eq_false_iff_ne.2 (by omega)
          have hle : decide (e' ≤ e') = true := by simp
          clear hOe
          go_wp2
          go_ret
          exact ⟨rfl, kend⟩
      · rcases hOe with ⟨h0, _⟩ | ⟨gl, cap, ev, hOe⟩
        · omega
        injection ev with ev1 ev2 ev3
        subst ev1 ev3
        obtain ⟨_, c1⟩ := hOe.cells (show 0 < n' by omega)
        simp only [Nat.zero_mul, Nat.zero_add] at c1
        have key := low_top hL' (by omega)
        have hni : ((n' : Int) == 0) = false := beq_eq_false_iff_ne.2 (by omega)
        have hnp : (0 : Int) < (n' : Int) := by omega
        clear hOe
        by_cases he : e' < 0
        · rw [wake_top f' hn0 he]
          have hec : decide (e' < 0) = true := by simpa using he
          generalize (f' 0).2 = z at c1 key ⊢
          have hm : (z == -1) = false := beq_eq_false_iff_ne.2 (by omega)
          have hle : decide (z ≤ z) = true := by simp
          go_wp2
          go_ret
          exact ⟨rfl, kend⟩
        · rw [wake_both f' hn0 (by omega)]
          have hec : decide (e' < 0) = false := by simpa using he
          have m1 := minI_l (f' 0).2 e'
          have m2 := minI_r (f' 0).2 e'
          have m3 := minI_ge key (show 0 ≤ e' by omega)
          generalize minI (f' 0).2 e' = y at m1 m2 m3 ⊢
          generalize (f' 0).2 = z at c1 key m1 ⊢
          have hm : (y == -1) = false := beq_eq_false_iff_ne.2 (by omega)
          have hle : decide (y ≤ z) = true := by simpa using m1
          have hle2 : decide (y ≤ e') = true := by simpa using m2
          go_wp2
          go_ret
          exact ⟨rfl, kend⟩

end Go.Proofs.Ytnmaljieaflnmaa
