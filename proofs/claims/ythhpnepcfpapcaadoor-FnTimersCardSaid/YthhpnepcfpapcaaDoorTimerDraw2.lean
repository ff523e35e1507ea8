/-
  The draws of the chapter on timers, second part.
-/
import Derived.Test.YthhpnepcfpapcaaDoorTimerDraw
namespace Go.Proofs.YthhpnepcfpapcaaDoor
open Go.RowKit Go.Joins
set_option linter.unusedVariables false

theorem b_set {B b : Nat} {a w : World} (h : Below B a w) (hb : B ≤ b) (o : Nat) (u : Value) : Below B a (w.setCell ⟨b, o, none⟩ u) := h.setCell (p := ⟨b, o, none⟩) hb u
abbrev set3 (w : World) (b : Nat) (x y z : Int) : World := ((w.setCell ⟨b, 0, none⟩ (.int .i64 x)).setCell ⟨b, 1, none⟩ (.int .i64 y)).setCell ⟨b, 2, none⟩ (.int .i64 z)
theorem b_set3 {B b : Nat} {a w : World} (h : Below B a w) (hb : B ≤ b) (x y z : Int) : Below B a (set3 w b x y z) := b_set (b_set (b_set h hb _ _) hb _ _) hb _ _
theorem b_set8 {B b : Nat} {a w : World} (h : Below B a w) (hb : B ≤ b) (t : Tm) : Below B a (set8 w b t) := b_set (b_set (b_set (b_set (b_set (b_set (b_set (b_set h hb _ _) hb _ _) hb _ _) hb _ _) hb _ _) hb _ _) hb _ _) hb _ _
theorem b_fin {B x y : Nat} {a w : World} (h : Below B a w) (hx : B ≤ x) (hy : B ≤ y) (p q r : Int) (t : Tm) : Below B a (set8 (set3 w x p q r) y t).drew := (b_set8 (b_set3 h hx p q r) hy t).drew
theorem b_fin2 {B x y : Nat} {a w : World} (h : Below B a w) (hx : B ≤ x) (hy : B ≤ y) (p q r : Int) (t : Tm) : Below B a (set3 (set8 w y t) x p q r).drew := (b_set3 (b_set8 h hy t) hx p q r).drew
abbrev plO (a b c : Int) (ty : TypeId) : Obj := .cells #[.int .i64 a, .int .i64 b, .int .i64 c] ty

set_option maxHeartbeats 400000 in
theorem drawInHeap_any {len : Nat} {sl : Value} {w : World} (hlen : len ≤ 4096) (hcode : CodeAt w w.heap.size sl len) :
    Calls Tryd.prog 8 #[sl] w fun e w' => ∃ n : Int, e = .returned (.int .i64 n) ∧ Below w.heap.size w w' := by
  go_enter Tryd.func8, Tryd.ntmps8
  go_wp2_with fail
  go_at_call 15; refine (l1New_any w.heap.size rfl hlen hcode (Nat.le_refl _)).mono ?_; rintro e w1 ⟨rfl, hC1, hb1⟩
  go_wp2_with fail
  go_at_call 21; refine (l1From_any (-1) 8 (by omega) (by omega) (by omega) hC1).mono ?_; rintro e w2 ⟨x, x0, x1, rfl, hC2, hg⟩
  go_wp2
  go_ret
  exact ⟨_, rfl, hb1.trans (b_grown hg (Nat.le_refl _) hb1.size)⟩

set_option maxHeartbeats 400000 in
theorem drawPasses_any {len : Nat} {sl : Value} {w : World} (hlen : len ≤ 4096) (hcode : CodeAt w w.heap.size sl len) :
    Calls Tryd.prog 7 #[sl] w fun e w' => ∃ a b : Int, e = .returned (.tuple #[.int .i64 a, .int .i64 b]) ∧ Below w.heap.size w w' := by
  go_enter Tryd.func7, Tryd.ntmps7
  go_wp2_with fail
  go_at_call 15; refine (l1New_any w.heap.size rfl hlen hcode (Nat.le_refl _)).mono ?_; rintro e w1 ⟨rfl, hC1, hb1⟩
  go_wp2_with fail
  go_at_call 21; refine (l1From_any (-1) 8 (by omega) (by omega) (by omega) hC1).mono ?_; rintro e w2 ⟨x, x0, x1, rfl, hC2, hg⟩
  go_wp2_with fail
  go_at_call 21; refine (l1From_any (-1) 8 (by omega) (by omega) (by omega) hC2).mono ?_; rintro e w3 ⟨y, y0, y1, rfl, hC3, hg2⟩
  go_wp2
  go_ret2
  exact ⟨_, _, rfl, hb1.trans ((b_grown hg (Nat.le_refl _) hb1.size).trans (b_grown hg2 (Nat.le_refl _) (Nat.le_trans hb1.size hg.size)))⟩

set_option maxRecDepth 100000 in
set_option maxHeartbeats 8000000 in
theorem drawTimerOk_any {len : Nat} {sl : Value} {w : World} (hlen : len ≤ 4096) (hcode : CodeAt w w.heap.size sl len) :
    Calls Tryd.prog 6 #[sl] w fun e w' => ∃ (a b c : Int) (t : Tm), e = .returned (.tuple #[.agg #[.int .i64 a, .int .i64 b, .int .i64 c], tmV t]) ∧ Below w.heap.size w w' := by
  have k0 := (Below.refl w.heap.size w).alloc (Nat.le_refl _) (plO 0 0 0 25)
  have e0 : (w.alloc (plO 0 0 0 25)).heap.size = w.heap.size + 1 := by simp
  have k1 := k0.alloc (by omega) (tmO ⟨0, 0, 0, 0, 0, 0, 0, 0⟩ 27)
  have e1 : ((w.alloc (plO 0 0 0 25)).alloc (tmO ⟨0, 0, 0, 0, 0, 0, 0, 0⟩ 27)).heap.size = w.heap.size + 2 := by simp
  have hR2 := alloc_block (tmO ⟨0, 0, 0, 0, 0, 0, 0, 0⟩ 27) (heap_alloc_new w (plO 0 0 0 25))
  have hR3 := heap_alloc_new (w.alloc (plO 0 0 0 25)) (tmO ⟨0, 0, 0, 0, 0, 0, 0, 0⟩ 27)
  rw [e0] at hR3
  have hcode2 := hcode.below k1
  go_enter Tryd.func6, Tryd.ntmps6
  go_wp2_with fail
  go_at_call 15; refine (l1New_any (w.heap.size + 2) e1.symm hlen hcode2 (by omega)).mono ?_; rintro e w1 ⟨rfl, hC1, hb1⟩
  replace hR2 := b_block hb1 hR2 (by omega)
  replace hR3 := b_block hb1 hR3 (by omega)
  have hbb := k1.trans (hb1.mono (by omega))
  have hgB : w.heap.size ≤ w.heap.size + 2 := by omega
  clear hb1 k0 k1 e0 e1 hcode2
  go_wp2_with fail
  go_at_call 16; refine (l1DrawPlan_any hC1).mono ?_; rintro e w2 ⟨a, b, c, ⟨⟨a0, a1⟩, _, _⟩, rfl, hC2, hg⟩
  replace hR2 := alloc_block (plO a b c 25) (g_block hg hR2 (by omega))
  replace hR3 := alloc_block (plO a b c 25) (g_block hg hR3 (by omega))
  have hlt2 := hC2.lt
  have hPv := heap_alloc_new w2 (plO a b c 25)
  replace hbb := (hbb.trans (b_grown hg hgB hbb.size)).alloc (by omega) (plO a b c 25)
  have hC3 := hC2.alloc (plO a b c 25)
  have hs2 : w2.heap.size < (w2.alloc (plO a b c 25)).heap.size := by simp
  obtain ⟨v0, v1, v2, vf0, vf1, vf2⟩ := three hPv
  clear hg hC1
  go_wp2_with fail
  go_at_call 17; refine (l3Draw_any a b c a0 (by omega) hC3).mono ?_; rintro e w3 ⟨t, rfl, hC4, hg⟩
  clear v0 v1 v2 vf0 vf1 vf2
  replace hR2 := alloc_block (tmO t 27) (g_block hg hR2 (by omega))
  replace hR3 := alloc_block (tmO t 27) (g_block hg hR3 (by omega))
  replace hPv := alloc_block (tmO t 27) (g_block hg hPv (by omega))
  have hTv := heap_alloc_new w3 (tmO t 27)
  have hlt3 : w2.heap.size < w3.heap.size := Nat.lt_of_lt_of_le hs2 hg.size
  replace hbb := (hbb.trans (b_grown hg hgB hbb.size)).alloc (by omega) (tmO t 27)
  have hC5 := hC4.alloc (tmO t 27)
  clear hg hC2 hC3 hC4 hs2
  go_wp2_with fail
  go_at_call 18; refine (l1Once_any 12 (by omega) (by omega) hC5).mono ?_; rintro e w4 ⟨q, rfl, hC6, hg⟩
  replace hR2 := g_block hg hR2 (by omega)
  replace hR3 := g_block hg hR3 (by omega)
  replace hPv := g_block hg hPv (by omega)
  replace hTv := g_block hg hTv (by omega)
  replace hbb := hbb.trans (b_grown hg hgB hbb.size)
  clear hg
  clear hC5
  cases q
  · go_wp2_with fail
    go_at_call 18; refine (l1Once_any 3 (by omega) (by omega) hC6).mono ?_; rintro e w6 ⟨q2, rfl, hC7, hg⟩
    replace hR2 := g_block hg hR2 (by omega)
    replace hR3 := g_block hg hR3 (by omega)
    replace hPv := g_block hg hPv (by omega)
    replace hTv := g_block hg hTv (by omega)
    replace hbb := hbb.trans (b_grown hg hgB hbb.size)
    clear hg
    cases q2
    · obtain ⟨z0, z1, z2, zf0, zf1, zf2⟩ := three hR2
      obtain ⟨v0, v1, v2, vf0, vf1, vf2⟩ := three hPv
      obtain ⟨r0, r1, r2, r3, r4, r5, r6, r7⟩ := eight_cells (t := ⟨0, 0, 0, 0, 0, 0, 0, 0⟩) hR3
      obtain ⟨p0, p1, p2, p3, p4, p5, p6, p7⟩ := eight_free hR3
      obtain ⟨t0, t1, t2, t3, t4, t5, t6, t7⟩ := eight_cells (t := t) hTv
      have hT4 := eight_free hTv
      obtain ⟨u0, u1, u2, u3, u4, u5, u6, u7⟩ := hT4
      have hF := b_fin hbb (x := w.heap.size) (y := w.heap.size + 1) (Nat.le_refl _) (Nat.le_succ _) a b c t
      have hF2 := b_fin2 hbb (x := w.heap.size) (y := w.heap.size + 1) (Nat.le_refl _) (Nat.le_succ _) a b c t
      clear hR2 hR3 hPv hTv
      go_wp2
      go_region
      all_goals
        go_wp2
        exact bodyPost_ret (v := .tuple #[.agg #[.int .i64 a, .int .i64 b, .int .i64 c], tmV t]) (by simp [results, Tryd.results6, go_sem, z0, z1, z2, r0, r1, r2, r3, r4, r5, r6, r7]) rfl
          ⟨a, b, c, t, rfl, by first | exact hF | exact hF2⟩
    · go_wp2_with fail
      go_at_call 20; refine (l1Below_any 8 (by omega) (by omega) hC7).mono ?_; rintro e w7 ⟨x, x0, x1, rfl, hC8, hg⟩
      replace hR2 := g_block hg hR2 (by omega)
      replace hR3 := g_block hg hR3 (by omega)
      replace hPv := g_block hg hPv (by omega)
      replace hTv := g_block hg hTv (by omega)
      replace hbb := hbb.trans (b_grown hg hgB hbb.size)
      clear hg
      have hx : x = 0 ∨ x = 1 ∨ x = 2 ∨ x = 3 ∨ x = 4 ∨ x = 5 ∨ x = 6 ∨ x = 7 := by omega
      clear x0 x1
      rcases hx with rfl | rfl | rfl | rfl | rfl | rfl | rfl | rfl
      · go_wp2_with fail
        go_at_call 21; refine (l1From_any (-1) 8 (by omega) (by omega) (by omega) hC8).mono ?_; rintro e w8 ⟨y, y0, y1, rfl, hC9, hg⟩
        replace hR2 := g_block hg hR2 (by omega)
        replace hR3 := g_block hg hR3 (by omega)
        replace hPv := g_block hg hPv (by omega)
        replace hTv := g_block hg hTv (by omega)
        replace hbb := hbb.trans (b_grown hg hgB hbb.size)
        clear hg
        obtain ⟨z0, z1, z2, zf0, zf1, zf2⟩ := three hR2
        obtain ⟨v0, v1, v2, vf0, vf1, vf2⟩ := three hPv
        obtain ⟨r0, r1, r2, r3, r4, r5, r6, r7⟩ := eight_cells (t := ⟨0, 0, 0, 0, 0, 0, 0, 0⟩) hR3
        obtain ⟨p0, p1, p2, p3, p4, p5, p6, p7⟩ := eight_free hR3
        obtain ⟨t0, t1, t2, t3, t4, t5, t6, t7⟩ := eight_cells (t := t) hTv
        have hT4 := eight_free hTv
        obtain ⟨u0, u1, u2, u3, u4, u5, u6, u7⟩ := hT4
        have hF := b_fin (b_set hbb (b := w3.heap.size) (by omega) 0 (.int .i64 y)) (x := w.heap.size) (y := w.heap.size + 1) (Nat.le_refl _) (Nat.le_succ _) a b c ⟨y, t.wh, t.nx, t.pe, t.pl, t.ge, t.ki, t.ma⟩
        have hF2 := b_fin2 (b_set hbb (b := w3.heap.size) (by omega) 0 (.int .i64 y)) (x := w.heap.size) (y := w.heap.size + 1) (Nat.le_refl _) (Nat.le_succ _) a b c ⟨y, t.wh, t.nx, t.pe, t.pl, t.ge, t.ki, t.ma⟩
        clear hR2 hR3 hPv hTv
        go_wp2
        go_region
        all_goals
          go_wp2
          exact bodyPost_ret (v := .tuple #[.agg #[.int .i64 a, .int .i64 b, .int .i64 c], tmV ⟨y, t.wh, t.nx, t.pe, t.pl, t.ge, t.ki, t.ma⟩]) (by simp [results, Tryd.results6, go_sem, z0, z1, z2, r0, r1, r2, r3, r4, r5, r6, r7]) rfl
            ⟨a, b, c, ⟨y, t.wh, t.nx, t.pe, t.pl, t.ge, t.ki, t.ma⟩, rfl, by first | exact hF | exact hF2⟩
      · go_wp2_with fail
        go_at_call 22; refine (l1Num_any 1000000000 (by omega) (by omega) hC8).mono ?_; rintro e w8 ⟨y, y0, y1, rfl, hC9, hg⟩
        replace hR2 := g_block hg hR2 (by omega)
        replace hR3 := g_block hg hR3 (by omega)
        replace hPv := g_block hg hPv (by omega)
        replace hTv := g_block hg hTv (by omega)
        replace hbb := hbb.trans (b_grown hg hgB hbb.size)
        clear hg
        obtain ⟨z0, z1, z2, zf0, zf1, zf2⟩ := three hR2
        obtain ⟨v0, v1, v2, vf0, vf1, vf2⟩ := three hPv
        obtain ⟨r0, r1, r2, r3, r4, r5, r6, r7⟩ := eight_cells (t := ⟨0, 0, 0, 0, 0, 0, 0, 0⟩) hR3
        obtain ⟨p0, p1, p2, p3, p4, p5, p6, p7⟩ := eight_free hR3
        obtain ⟨t0, t1, t2, t3, t4, t5, t6, t7⟩ := eight_cells (t := t) hTv
        have hT4 := eight_free hTv
        obtain ⟨u0, u1, u2, u3, u4, u5, u6, u7⟩ := hT4
        have hF := b_fin (b_set hbb (b := w3.heap.size) (by omega) 1 (.int .i64 y)) (x := w.heap.size) (y := w.heap.size + 1) (Nat.le_refl _) (Nat.le_succ _) a b c ⟨t.st, y, t.nx, t.pe, t.pl, t.ge, t.ki, t.ma⟩
        have hF2 := b_fin2 (b_set hbb (b := w3.heap.size) (by omega) 1 (.int .i64 y)) (x := w.heap.size) (y := w.heap.size + 1) (Nat.le_refl _) (Nat.le_succ _) a b c ⟨t.st, y, t.nx, t.pe, t.pl, t.ge, t.ki, t.ma⟩
        clear hR2 hR3 hPv hTv
        go_wp2
        go_region
        all_goals
          go_wp2
          exact bodyPost_ret (v := .tuple #[.agg #[.int .i64 a, .int .i64 b, .int .i64 c], tmV ⟨t.st, y, t.nx, t.pe, t.pl, t.ge, t.ki, t.ma⟩]) (by simp [results, Tryd.results6, go_sem, z0, z1, z2, r0, r1, r2, r3, r4, r5, r6, r7]) rfl
            ⟨a, b, c, ⟨t.st, y, t.nx, t.pe, t.pl, t.ge, t.ki, t.ma⟩, rfl, by first | exact hF | exact hF2⟩
      · go_wp2_with fail
        go_at_call 22; refine (l1Num_any 1000000000 (by omega) (by omega) hC8).mono ?_; rintro e w8 ⟨y, y0, y1, rfl, hC9, hg⟩
        replace hR2 := g_block hg hR2 (by omega)
        replace hR3 := g_block hg hR3 (by omega)
        replace hPv := g_block hg hPv (by omega)
        replace hTv := g_block hg hTv (by omega)
        replace hbb := hbb.trans (b_grown hg hgB hbb.size)
        clear hg
        obtain ⟨z0, z1, z2, zf0, zf1, zf2⟩ := three hR2
        obtain ⟨v0, v1, v2, vf0, vf1, vf2⟩ := three hPv
        obtain ⟨r0, r1, r2, r3, r4, r5, r6, r7⟩ := eight_cells (t := ⟨0, 0, 0, 0, 0, 0, 0, 0⟩) hR3
        obtain ⟨p0, p1, p2, p3, p4, p5, p6, p7⟩ := eight_free hR3
        obtain ⟨t0, t1, t2, t3, t4, t5, t6, t7⟩ := eight_cells (t := t) hTv
        have hT4 := eight_free hTv
        obtain ⟨u0, u1, u2, u3, u4, u5, u6, u7⟩ := hT4
        have hF := b_fin (b_set hbb (b := w3.heap.size) (by omega) 2 (.int .i64 y)) (x := w.heap.size) (y := w.heap.size + 1) (Nat.le_refl _) (Nat.le_succ _) a b c ⟨t.st, t.wh, y, t.pe, t.pl, t.ge, t.ki, t.ma⟩
        have hF2 := b_fin2 (b_set hbb (b := w3.heap.size) (by omega) 2 (.int .i64 y)) (x := w.heap.size) (y := w.heap.size + 1) (Nat.le_refl _) (Nat.le_succ _) a b c ⟨t.st, t.wh, y, t.pe, t.pl, t.ge, t.ki, t.ma⟩
        clear hR2 hR3 hPv hTv
        go_wp2
        go_region
        all_goals
          go_wp2
          exact bodyPost_ret (v := .tuple #[.agg #[.int .i64 a, .int .i64 b, .int .i64 c], tmV ⟨t.st, t.wh, y, t.pe, t.pl, t.ge, t.ki, t.ma⟩]) (by simp [results, Tryd.results6, go_sem, z0, z1, z2, r0, r1, r2, r3, r4, r5, r6, r7]) rfl
            ⟨a, b, c, ⟨t.st, t.wh, y, t.pe, t.pl, t.ge, t.ki, t.ma⟩, rfl, by first | exact hF | exact hF2⟩
      · go_wp2_with fail
        go_at_call 22; refine (l1Num_any 1000000000 (by omega) (by omega) hC8).mono ?_; rintro e w8 ⟨y, y0, y1, rfl, hC9, hg⟩
        replace hR2 := g_block hg hR2 (by omega)
        replace hR3 := g_block hg hR3 (by omega)
        replace hPv := g_block hg hPv (by omega)
        replace hTv := g_block hg hTv (by omega)
        replace hbb := hbb.trans (b_grown hg hgB hbb.size)
        clear hg
        obtain ⟨z0, z1, z2, zf0, zf1, zf2⟩ := three hR2
        obtain ⟨v0, v1, v2, vf0, vf1, vf2⟩ := three hPv
        obtain ⟨r0, r1, r2, r3, r4, r5, r6, r7⟩ := eight_cells (t := ⟨0, 0, 0, 0, 0, 0, 0, 0⟩) hR3
        obtain ⟨p0, p1, p2, p3, p4, p5, p6, p7⟩ := eight_free hR3
        obtain ⟨t0, t1, t2, t3, t4, t5, t6, t7⟩ := eight_cells (t := t) hTv
        have hT4 := eight_free hTv
        obtain ⟨u0, u1, u2, u3, u4, u5, u6, u7⟩ := hT4
        have hF := b_fin (b_set hbb (b := w3.heap.size) (by omega) 3 (.int .i64 y)) (x := w.heap.size) (y := w.heap.size + 1) (Nat.le_refl _) (Nat.le_succ _) a b c ⟨t.st, t.wh, t.nx, y, t.pl, t.ge, t.ki, t.ma⟩
        have hF2 := b_fin2 (b_set hbb (b := w3.heap.size) (by omega) 3 (.int .i64 y)) (x := w.heap.size) (y := w.heap.size + 1) (Nat.le_refl _) (Nat.le_succ _) a b c ⟨t.st, t.wh, t.nx, y, t.pl, t.ge, t.ki, t.ma⟩
        clear hR2 hR3 hPv hTv
        go_wp2
        go_region
        all_goals
          go_wp2
          exact bodyPost_ret (v := .tuple #[.agg #[.int .i64 a, .int .i64 b, .int .i64 c], tmV ⟨t.st, t.wh, t.nx, y, t.pl, t.ge, t.ki, t.ma⟩]) (by simp [results, Tryd.results6, go_sem, z0, z1, z2, r0, r1, r2, r3, r4, r5, r6, r7]) rfl
            ⟨a, b, c, ⟨t.st, t.wh, t.nx, y, t.pl, t.ge, t.ki, t.ma⟩, rfl, by first | exact hF | exact hF2⟩
      · go_wp2_with fail
        go_at_call 21; refine (l1From_any (-2) 4 (by omega) (by omega) (by omega) hC8).mono ?_; rintro e w8 ⟨y, y0, y1, rfl, hC9, hg⟩
        replace hR2 := g_block hg hR2 (by omega)
        replace hR3 := g_block hg hR3 (by omega)
        replace hPv := g_block hg hPv (by omega)
        replace hTv := g_block hg hTv (by omega)
        replace hbb := hbb.trans (b_grown hg hgB hbb.size)
        clear hg
        obtain ⟨z0, z1, z2, zf0, zf1, zf2⟩ := three hR2
        obtain ⟨v0, v1, v2, vf0, vf1, vf2⟩ := three hPv
        obtain ⟨r0, r1, r2, r3, r4, r5, r6, r7⟩ := eight_cells (t := ⟨0, 0, 0, 0, 0, 0, 0, 0⟩) hR3
        obtain ⟨p0, p1, p2, p3, p4, p5, p6, p7⟩ := eight_free hR3
        obtain ⟨t0, t1, t2, t3, t4, t5, t6, t7⟩ := eight_cells (t := t) hTv
        have hT4 := eight_free hTv
        obtain ⟨u0, u1, u2, u3, u4, u5, u6, u7⟩ := hT4
        have hF := b_fin (b_set hbb (b := w3.heap.size) (by omega) 4 (.int .i64 y)) (x := w.heap.size) (y := w.heap.size + 1) (Nat.le_refl _) (Nat.le_succ _) a b c ⟨t.st, t.wh, t.nx, t.pe, y, t.ge, t.ki, t.ma⟩
        have hF2 := b_fin2 (b_set hbb (b := w3.heap.size) (by omega) 4 (.int .i64 y)) (x := w.heap.size) (y := w.heap.size + 1) (Nat.le_refl _) (Nat.le_succ _) a b c ⟨t.st, t.wh, t.nx, t.pe, y, t.ge, t.ki, t.ma⟩
        clear hR2 hR3 hPv hTv
        go_wp2
        go_region
        all_goals
          go_wp2
          exact bodyPost_ret (v := .tuple #[.agg #[.int .i64 a, .int .i64 b, .int .i64 c], tmV ⟨t.st, t.wh, t.nx, t.pe, y, t.ge, t.ki, t.ma⟩]) (by simp [results, Tryd.results6, go_sem, z0, z1, z2, r0, r1, r2, r3, r4, r5, r6, r7]) rfl
            ⟨a, b, c, ⟨t.st, t.wh, t.nx, t.pe, y, t.ge, t.ki, t.ma⟩, rfl, by first | exact hF | exact hF2⟩
      · go_wp2_with fail
        go_at_call 22; refine (l1Num_any 100000 (by omega) (by omega) hC8).mono ?_; rintro e w8 ⟨y, y0, y1, rfl, hC9, hg⟩
        replace hR2 := g_block hg hR2 (by omega)
        replace hR3 := g_block hg hR3 (by omega)
        replace hPv := g_block hg hPv (by omega)
        replace hTv := g_block hg hTv (by omega)
        replace hbb := hbb.trans (b_grown hg hgB hbb.size)
        clear hg
        obtain ⟨z0, z1, z2, zf0, zf1, zf2⟩ := three hR2
        obtain ⟨v0, v1, v2, vf0, vf1, vf2⟩ := three hPv
        obtain ⟨r0, r1, r2, r3, r4, r5, r6, r7⟩ := eight_cells (t := ⟨0, 0, 0, 0, 0, 0, 0, 0⟩) hR3
        obtain ⟨p0, p1, p2, p3, p4, p5, p6, p7⟩ := eight_free hR3
        obtain ⟨t0, t1, t2, t3, t4, t5, t6, t7⟩ := eight_cells (t := t) hTv
        have hT4 := eight_free hTv
        obtain ⟨u0, u1, u2, u3, u4, u5, u6, u7⟩ := hT4
        have hF := b_fin (b_set hbb (b := w3.heap.size) (by omega) 5 (.int .i64 y)) (x := w.heap.size) (y := w.heap.size + 1) (Nat.le_refl _) (Nat.le_succ _) a b c ⟨t.st, t.wh, t.nx, t.pe, t.pl, y, t.ki, t.ma⟩
        have hF2 := b_fin2 (b_set hbb (b := w3.heap.size) (by omega) 5 (.int .i64 y)) (x := w.heap.size) (y := w.heap.size + 1) (Nat.le_refl _) (Nat.le_succ _) a b c ⟨t.st, t.wh, t.nx, t.pe, t.pl, y, t.ki, t.ma⟩
        clear hR2 hR3 hPv hTv
        go_wp2
        go_region
        all_goals
          go_wp2
          exact bodyPost_ret (v := .tuple #[.agg #[.int .i64 a, .int .i64 b, .int .i64 c], tmV ⟨t.st, t.wh, t.nx, t.pe, t.pl, y, t.ki, t.ma⟩]) (by simp [results, Tryd.results6, go_sem, z0, z1, z2, r0, r1, r2, r3, r4, r5, r6, r7]) rfl
            ⟨a, b, c, ⟨t.st, t.wh, t.nx, t.pe, t.pl, y, t.ki, t.ma⟩, rfl, by first | exact hF | exact hF2⟩
      · go_wp2_with fail
        go_at_call 21; refine (l1From_any (-1) 2 (by omega) (by omega) (by omega) hC8).mono ?_; rintro e w8 ⟨y, y0, y1, rfl, hC9, hg⟩
        replace hR2 := g_block hg hR2 (by omega)
        replace hR3 := g_block hg hR3 (by omega)
        replace hPv := g_block hg hPv (by omega)
        replace hTv := g_block hg hTv (by omega)
        replace hbb := hbb.trans (b_grown hg hgB hbb.size)
        clear hg
        obtain ⟨z0, z1, z2, zf0, zf1, zf2⟩ := three hR2
        obtain ⟨v0, v1, v2, vf0, vf1, vf2⟩ := three hPv
        obtain ⟨r0, r1, r2, r3, r4, r5, r6, r7⟩ := eight_cells (t := ⟨0, 0, 0, 0, 0, 0, 0, 0⟩) hR3
        obtain ⟨p0, p1, p2, p3, p4, p5, p6, p7⟩ := eight_free hR3
        obtain ⟨t0, t1, t2, t3, t4, t5, t6, t7⟩ := eight_cells (t := t) hTv
        have hT4 := eight_free hTv
        obtain ⟨u0, u1, u2, u3, u4, u5, u6, u7⟩ := hT4
        have hF := b_fin (b_set hbb (b := w3.heap.size) (by omega) 6 (.int .i64 y)) (x := w.heap.size) (y := w.heap.size + 1) (Nat.le_refl _) (Nat.le_succ _) a b c ⟨t.st, t.wh, t.nx, t.pe, t.pl, t.ge, y, t.ma⟩
        have hF2 := b_fin2 (b_set hbb (b := w3.heap.size) (by omega) 6 (.int .i64 y)) (x := w.heap.size) (y := w.heap.size + 1) (Nat.le_refl _) (Nat.le_succ _) a b c ⟨t.st, t.wh, t.nx, t.pe, t.pl, t.ge, y, t.ma⟩
        clear hR2 hR3 hPv hTv
        go_wp2
        go_region
        all_goals
          go_wp2
          exact bodyPost_ret (v := .tuple #[.agg #[.int .i64 a, .int .i64 b, .int .i64 c], tmV ⟨t.st, t.wh, t.nx, t.pe, t.pl, t.ge, y, t.ma⟩]) (by simp [results, Tryd.results6, go_sem, z0, z1, z2, r0, r1, r2, r3, r4, r5, r6, r7]) rfl
            ⟨a, b, c, ⟨t.st, t.wh, t.nx, t.pe, t.pl, t.ge, y, t.ma⟩, rfl, by first | exact hF | exact hF2⟩
      · go_wp2_with fail
        go_at_call 22; refine (l1Num_any 1000000001 (by omega) (by omega) hC8).mono ?_; rintro e w8 ⟨y, y0, y1, rfl, hC9, hg⟩
        replace hR2 := g_block hg hR2 (by omega)
        replace hR3 := g_block hg hR3 (by omega)
        replace hPv := g_block hg hPv (by omega)
        replace hTv := g_block hg hTv (by omega)
        replace hbb := hbb.trans (b_grown hg hgB hbb.size)
        clear hg
        obtain ⟨z0, z1, z2, zf0, zf1, zf2⟩ := three hR2
        obtain ⟨v0, v1, v2, vf0, vf1, vf2⟩ := three hPv
        obtain ⟨r0, r1, r2, r3, r4, r5, r6, r7⟩ := eight_cells (t := ⟨0, 0, 0, 0, 0, 0, 0, 0⟩) hR3
        obtain ⟨p0, p1, p2, p3, p4, p5, p6, p7⟩ := eight_free hR3
        obtain ⟨t0, t1, t2, t3, t4, t5, t6, t7⟩ := eight_cells (t := t) hTv
        have hT4 := eight_free hTv
        obtain ⟨u0, u1, u2, u3, u4, u5, u6, u7⟩ := hT4
        have hF := b_fin (b_set hbb (b := w3.heap.size) (by omega) 7 (.int .i64 y)) (x := w.heap.size) (y := w.heap.size + 1) (Nat.le_refl _) (Nat.le_succ _) a b c ⟨t.st, t.wh, t.nx, t.pe, t.pl, t.ge, t.ki, y⟩
        have hF2 := b_fin2 (b_set hbb (b := w3.heap.size) (by omega) 7 (.int .i64 y)) (x := w.heap.size) (y := w.heap.size + 1) (Nat.le_refl _) (Nat.le_succ _) a b c ⟨t.st, t.wh, t.nx, t.pe, t.pl, t.ge, t.ki, y⟩
        clear hR2 hR3 hPv hTv
        go_wp2
        go_region
        all_goals
          go_wp2
          exact bodyPost_ret (v := .tuple #[.agg #[.int .i64 a, .int .i64 b, .int .i64 c], tmV ⟨t.st, t.wh, t.nx, t.pe, t.pl, t.ge, t.ki, y⟩]) (by simp [results, Tryd.results6, go_sem, z0, z1, z2, r0, r1, r2, r3, r4, r5, r6, r7]) rfl
            ⟨a, b, c, ⟨t.st, t.wh, t.nx, t.pe, t.pl, t.ge, t.ki, y⟩, rfl, by first | exact hF | exact hF2⟩
  · go_wp2_with fail
    go_at_call 19; refine (l1DrawAny_any hC6).mono ?_; rintro e w5 ⟨a2, b2, c2, _, rfl, hC61, hg⟩
    replace hR2 := g_block hg hR2 (by omega)
    replace hR3 := g_block hg hR3 (by omega)
    replace hPv := g_block hg hPv (by omega)
    replace hTv := g_block hg hTv (by omega)
    replace hbb := hbb.trans (b_grown hg hgB hbb.size)
    clear hg
    obtain ⟨v0, v1, v2, vf0, vf1, vf2⟩ := three hPv
    have hPv2 : (((w5.setCell ⟨w2.heap.size, 0, none⟩ (.int .i64 a2)).setCell ⟨w2.heap.size, 1, none⟩ (.int .i64 b2)).setCell ⟨w2.heap.size, 2, none⟩ (.int .i64 c2)).heap[w2.heap.size]? = some (plO a2 b2 c2 25) := block_setCell (block_setCell (block_setCell hPv _) _) _
    have far : ∀ n : Nat, n ≠ w2.heap.size → (((w5.setCell ⟨w2.heap.size, 0, none⟩ (.int .i64 a2)).setCell ⟨w2.heap.size, 1, none⟩ (.int .i64 b2)).setCell ⟨w2.heap.size, 2, none⟩ (.int .i64 c2)).heap[n]? = w5.heap[n]? := fun n hn =>
      (Below.heap_setCell _ ⟨w2.heap.size, 2, none⟩ _ n hn).trans ((Below.heap_setCell _ ⟨w2.heap.size, 1, none⟩ _ n hn).trans (Below.heap_setCell _ ⟨w2.heap.size, 0, none⟩ _ n hn))
    have hR22 := (far _ (by omega)).trans hR2
    have hR32 := (far _ (by omega)).trans hR3
    have hTv2 := (far _ (by omega)).trans hTv
    have hbb2 := b_set (b_set (b_set hbb (b := w2.heap.size) (by omega) 0 (.int .i64 a2)) (b := w2.heap.size) (by omega) 1 (.int .i64 b2)) (b := w2.heap.size) (by omega) 2 (.int .i64 c2)
    have hC62 := ((hC61.set (b := w2.heap.size) (by omega) (by omega) 0 (.int .i64 a2)).set (b := w2.heap.size) (by omega) (by omega) 1 (.int .i64 b2)).set (b := w2.heap.size) (by omega) (by omega) 2 (.int .i64 c2)
    clear far hPv hR2 hR3 hTv hbb hC61
    go_wp2_with fail
    clear v0 v1 v2 vf0 vf1 vf2
    have hPv := hPv2; have hR2 := hR22; have hR3 := hR32; have hTv := hTv2; have hbb := hbb2
    clear hPv2 hR22 hR32 hTv2 hbb2
    generalize ((w5.setCell ⟨w2.heap.size, 0, none⟩ (.int .i64 a2)).setCell ⟨w2.heap.size, 1, none⟩ (.int .i64 b2)).setCell ⟨w2.heap.size, 2, none⟩ (.int .i64 c2) = w9 at *
    go_at_call 18; refine (l1Once_any 3 (by omega) (by omega) hC62).mono ?_; rintro e w6 ⟨q2, rfl, hC7, hg⟩
    replace hR2 := g_block hg hR2 (by omega)
    replace hR3 := g_block hg hR3 (by omega)
    replace hPv := g_block hg hPv (by omega)
    replace hTv := g_block hg hTv (by omega)
    replace hbb := hbb.trans (b_grown hg hgB hbb.size)
    clear hg
    cases q2
    · obtain ⟨z0, z1, z2, zf0, zf1, zf2⟩ := three hR2
      obtain ⟨v0, v1, v2, vf0, vf1, vf2⟩ := three hPv
      obtain ⟨r0, r1, r2, r3, r4, r5, r6, r7⟩ := eight_cells (t := ⟨0, 0, 0, 0, 0, 0, 0, 0⟩) hR3
      obtain ⟨p0, p1, p2, p3, p4, p5, p6, p7⟩ := eight_free hR3
      obtain ⟨t0, t1, t2, t3, t4, t5, t6, t7⟩ := eight_cells (t := t) hTv
      have hT4 := eight_free hTv
      obtain ⟨u0, u1, u2, u3, u4, u5, u6, u7⟩ := hT4
      have hF := b_fin hbb (x := w.heap.size) (y := w.heap.size + 1) (Nat.le_refl _) (Nat.le_succ _) a2 b2 c2 t
      have hF2 := b_fin2 hbb (x := w.heap.size) (y := w.heap.size + 1) (Nat.le_refl _) (Nat.le_succ _) a2 b2 c2 t
      clear hR2 hR3 hPv hTv
      go_wp2
      go_region
      all_goals
        go_wp2
        exact bodyPost_ret (v := .tuple #[.agg #[.int .i64 a2, .int .i64 b2, .int .i64 c2], tmV t]) (by simp [results, Tryd.results6, go_sem, z0, z1, z2, r0, r1, r2, r3, r4, r5, r6, r7]) rfl
          ⟨a2, b2, c2, t, rfl, by first | exact hF | exact hF2⟩
    · go_wp2_with fail
      go_at_call 20; refine (l1Below_any 8 (by omega) (by omega) hC7).mono ?_; rintro e w7 ⟨x, x0, x1, rfl, hC8, hg⟩
      replace hR2 := g_block hg hR2 (by omega)
      replace hR3 := g_block hg hR3 (by omega)
      replace hPv := g_block hg hPv (by omega)
      replace hTv := g_block hg hTv (by omega)
      replace hbb := hbb.trans (b_grown hg hgB hbb.size)
      clear hg
      have hx : x = 0 ∨ x = 1 ∨ x = 2 ∨ x = 3 ∨ x = 4 ∨ x = 5 ∨ x = 6 ∨ x = 7 := by omega
      clear x0 x1
      rcases hx with rfl | rfl | rfl | rfl | rfl | rfl | rfl | rfl
      · go_wp2_with fail
        go_at_call 21; refine (l1From_any (-1) 8 (by omega) (by omega) (by omega) hC8).mono ?_; rintro e w8 ⟨y, y0, y1, rfl, hC9, hg⟩
        replace hR2 := g_block hg hR2 (by omega)
        replace hR3 := g_block hg hR3 (by omega)
        replace hPv := g_block hg hPv (by omega)
        replace hTv := g_block hg hTv (by omega)
        replace hbb := hbb.trans (b_grown hg hgB hbb.size)
        clear hg
        obtain ⟨z0, z1, z2, zf0, zf1, zf2⟩ := three hR2
        obtain ⟨v0, v1, v2, vf0, vf1, vf2⟩ := three hPv
        obtain ⟨r0, r1, r2, r3, r4, r5, r6, r7⟩ := eight_cells (t := ⟨0, 0, 0, 0, 0, 0, 0, 0⟩) hR3
        obtain ⟨p0, p1, p2, p3, p4, p5, p6, p7⟩ := eight_free hR3
        obtain ⟨t0, t1, t2, t3, t4, t5, t6, t7⟩ := eight_cells (t := t) hTv
        have hT4 := eight_free hTv
        obtain ⟨u0, u1, u2, u3, u4, u5, u6, u7⟩ := hT4
        have hF := b_fin (b_set hbb (b := w3.heap.size) (by omega) 0 (.int .i64 y)) (x := w.heap.size) (y := w.heap.size + 1) (Nat.le_refl _) (Nat.le_succ _) a2 b2 c2 ⟨y, t.wh, t.nx, t.pe, t.pl, t.ge, t.ki, t.ma⟩
        have hF2 := b_fin2 (b_set hbb (b := w3.heap.size) (by omega) 0 (.int .i64 y)) (x := w.heap.size) (y := w.heap.size + 1) (Nat.le_refl _) (Nat.le_succ _) a2 b2 c2 ⟨y, t.wh, t.nx, t.pe, t.pl, t.ge, t.ki, t.ma⟩
        clear hR2 hR3 hPv hTv
        go_wp2
        go_region
        all_goals
          go_wp2
          exact bodyPost_ret (v := .tuple #[.agg #[.int .i64 a2, .int .i64 b2, .int .i64 c2], tmV ⟨y, t.wh, t.nx, t.pe, t.pl, t.ge, t.ki, t.ma⟩]) (by simp [results, Tryd.results6, go_sem, z0, z1, z2, r0, r1, r2, r3, r4, r5, r6, r7]) rfl
            ⟨a2, b2, c2, ⟨y, t.wh, t.nx, t.pe, t.pl, t.ge, t.ki, t.ma⟩, rfl, by first | exact hF | exact hF2⟩
      · go_wp2_with fail
        go_at_call 22; refine (l1Num_any 1000000000 (by omega) (by omega) hC8).mono ?_; rintro e w8 ⟨y, y0, y1, rfl, hC9, hg⟩
        replace hR2 := g_block hg hR2 (by omega)
        replace hR3 := g_block hg hR3 (by omega)
        replace hPv := g_block hg hPv (by omega)
        replace hTv := g_block hg hTv (by omega)
        replace hbb := hbb.trans (b_grown hg hgB hbb.size)
        clear hg
        obtain ⟨z0, z1, z2, zf0, zf1, zf2⟩ := three hR2
        obtain ⟨v0, v1, v2, vf0, vf1, vf2⟩ := three hPv
        obtain ⟨r0, r1, r2, r3, r4, r5, r6, r7⟩ := eight_cells (t := ⟨0, 0, 0, 0, 0, 0, 0, 0⟩) hR3
        obtain ⟨p0, p1, p2, p3, p4, p5, p6, p7⟩ := eight_free hR3
        obtain ⟨t0, t1, t2, t3, t4, t5, t6, t7⟩ := eight_cells (t := t) hTv
        have hT4 := eight_free hTv
        obtain ⟨u0, u1, u2, u3, u4, u5, u6, u7⟩ := hT4
        have hF := b_fin (b_set hbb (b := w3.heap.size) (by omega) 1 (.int .i64 y)) (x := w.heap.size) (y := w.heap.size + 1) (Nat.le_refl _) (Nat.le_succ _) a2 b2 c2 ⟨t.st, y, t.nx, t.pe, t.pl, t.ge, t.ki, t.ma⟩
        have hF2 := b_fin2 (b_set hbb (b := w3.heap.size) (by omega) 1 (.int .i64 y)) (x := w.heap.size) (y := w.heap.size + 1) (Nat.le_refl _) (Nat.le_succ _) a2 b2 c2 ⟨t.st, y, t.nx, t.pe, t.pl, t.ge, t.ki, t.ma⟩
        clear hR2 hR3 hPv hTv
        go_wp2
        go_region
        all_goals
          go_wp2
          exact bodyPost_ret (v := .tuple #[.agg #[.int .i64 a2, .int .i64 b2, .int .i64 c2], tmV ⟨t.st, y, t.nx, t.pe, t.pl, t.ge, t.ki, t.ma⟩]) (by simp [results, Tryd.results6, go_sem, z0, z1, z2, r0, r1, r2, r3, r4, r5, r6, r7]) rfl
            ⟨a2, b2, c2, ⟨t.st, y, t.nx, t.pe, t.pl, t.ge, t.ki, t.ma⟩, rfl, by first | exact hF | exact hF2⟩
      · go_wp2_with fail
        go_at_call 22; refine (l1Num_any 1000000000 (by omega) (by omega) hC8).mono ?_; rintro e w8 ⟨y, y0, y1, rfl, hC9, hg⟩
        replace hR2 := g_block hg hR2 (by omega)
        replace hR3 := g_block hg hR3 (by omega)
        replace hPv := g_block hg hPv (by omega)
        replace hTv := g_block hg hTv (by omega)
        replace hbb := hbb.trans (b_grown hg hgB hbb.size)
        clear hg
        obtain ⟨z0, z1, z2, zf0, zf1, zf2⟩ := three hR2
        obtain ⟨v0, v1, v2, vf0, vf1, vf2⟩ := three hPv
        obtain ⟨r0, r1, r2, r3, r4, r5, r6, r7⟩ := eight_cells (t := ⟨0, 0, 0, 0, 0, 0, 0, 0⟩) hR3
        obtain ⟨p0, p1, p2, p3, p4, p5, p6, p7⟩ := eight_free hR3
        obtain ⟨t0, t1, t2, t3, t4, t5, t6, t7⟩ := eight_cells (t := t) hTv
        have hT4 := eight_free hTv
        obtain ⟨u0, u1, u2, u3, u4, u5, u6, u7⟩ := hT4
        have hF := b_fin (b_set hbb (b := w3.heap.size) (by omega) 2 (.int .i64 y)) (x := w.heap.size) (y := w.heap.size + 1) (Nat.le_refl _) (Nat.le_succ _) a2 b2 c2 ⟨t.st, t.wh, y, t.pe, t.pl, t.ge, t.ki, t.ma⟩
        have hF2 := b_fin2 (b_set hbb (b := w3.heap.size) (by omega) 2 (.int .i64 y)) (x := w.heap.size) (y := w.heap.size + 1) (Nat.le_refl _) (Nat.le_succ _) a2 b2 c2 ⟨t.st, t.wh, y, t.pe, t.pl, t.ge, t.ki, t.ma⟩
        clear hR2 hR3 hPv hTv
        go_wp2
        go_region
        all_goals
          go_wp2
          exact bodyPost_ret (v := .tuple #[.agg #[.int .i64 a2, .int .i64 b2, .int .i64 c2], tmV ⟨t.st, t.wh, y, t.pe, t.pl, t.ge, t.ki, t.ma⟩]) (by simp [results, Tryd.results6, go_sem, z0, z1, z2, r0, r1, r2, r3, r4, r5, r6, r7]) rfl
            ⟨a2, b2, c2, ⟨t.st, t.wh, y, t.pe, t.pl, t.ge, t.ki, t.ma⟩, rfl, by first | exact hF | exact hF2⟩
      · go_wp2_with fail
        go_at_call 22; refine (l1Num_any 1000000000 (by omega) (by omega) hC8).mono ?_; rintro e w8 ⟨y, y0, y1, rfl, hC9, hg⟩
        replace hR2 := g_block hg hR2 (by omega)
        replace hR3 := g_block hg hR3 (by omega)
        replace hPv := g_block hg hPv (by omega)
        replace hTv := g_block hg hTv (by omega)
        replace hbb := hbb.trans (b_grown hg hgB hbb.size)
        clear hg
        obtain ⟨z0, z1, z2, zf0, zf1, zf2⟩ := three hR2
        obtain ⟨v0, v1, v2, vf0, vf1, vf2⟩ := three hPv
        obtain ⟨r0, r1, r2, r3, r4, r5, r6, r7⟩ := eight_cells (t := ⟨0, 0, 0, 0, 0, 0, 0, 0⟩) hR3
        obtain ⟨p0, p1, p2, p3, p4, p5, p6, p7⟩ := eight_free hR3
        obtain ⟨t0, t1, t2, t3, t4, t5, t6, t7⟩ := eight_cells (t := t) hTv
        have hT4 := eight_free hTv
        obtain ⟨u0, u1, u2, u3, u4, u5, u6, u7⟩ := hT4
        have hF := b_fin (b_set hbb (b := w3.heap.size) (by omega) 3 (.int .i64 y)) (x := w.heap.size) (y := w.heap.size + 1) (Nat.le_refl _) (Nat.le_succ _) a2 b2 c2 ⟨t.st, t.wh, t.nx, y, t.pl, t.ge, t.ki, t.ma⟩
        have hF2 := b_fin2 (b_set hbb (b := w3.heap.size) (by omega) 3 (.int .i64 y)) (x := w.heap.size) (y := w.heap.size + 1) (Nat.le_refl _) (Nat.le_succ _) a2 b2 c2 ⟨t.st, t.wh, t.nx, y, t.pl, t.ge, t.ki, t.ma⟩
        clear hR2 hR3 hPv hTv
        go_wp2
        go_region
        all_goals
          go_wp2
          exact bodyPost_ret (v := .tuple #[.agg #[.int .i64 a2, .int .i64 b2, .int .i64 c2], tmV ⟨t.st, t.wh, t.nx, y, t.pl, t.ge, t.ki, t.ma⟩]) (by simp [results, Tryd.results6, go_sem, z0, z1, z2, r0, r1, r2, r3, r4, r5, r6, r7]) rfl
            ⟨a2, b2, c2, ⟨t.st, t.wh, t.nx, y, t.pl, t.ge, t.ki, t.ma⟩, rfl, by first | exact hF | exact hF2⟩
      · go_wp2_with fail
        go_at_call 21; refine (l1From_any (-2) 4 (by omega) (by omega) (by omega) hC8).mono ?_; rintro e w8 ⟨y, y0, y1, rfl, hC9, hg⟩
        replace hR2 := g_block hg hR2 (by omega)
        replace hR3 := g_block hg hR3 (by omega)
        replace hPv := g_block hg hPv (by omega)
        replace hTv := g_block hg hTv (by omega)
        replace hbb := hbb.trans (b_grown hg hgB hbb.size)
        clear hg
        obtain ⟨z0, z1, z2, zf0, zf1, zf2⟩ := three hR2
        obtain ⟨v0, v1, v2, vf0, vf1, vf2⟩ := three hPv
        obtain ⟨r0, r1, r2, r3, r4, r5, r6, r7⟩ := eight_cells (t := ⟨0, 0, 0, 0, 0, 0, 0, 0⟩) hR3
        obtain ⟨p0, p1, p2, p3, p4, p5, p6, p7⟩ := eight_free hR3
        obtain ⟨t0, t1, t2, t3, t4, t5, t6, t7⟩ := eight_cells (t := t) hTv
        have hT4 := eight_free hTv
        obtain ⟨u0, u1, u2, u3, u4, u5, u6, u7⟩ := hT4
        have hF := b_fin (b_set hbb (b := w3.heap.size) (by omega) 4 (.int .i64 y)) (x := w.heap.size) (y := w.heap.size + 1) (Nat.le_refl _) (Nat.le_succ _) a2 b2 c2 ⟨t.st, t.wh, t.nx, t.pe, y, t.ge, t.ki, t.ma⟩
        have hF2 := b_fin2 (b_set hbb (b := w3.heap.size) (by omega) 4 (.int .i64 y)) (x := w.heap.size) (y := w.heap.size + 1) (Nat.le_refl _) (Nat.le_succ _) a2 b2 c2 ⟨t.st, t.wh, t.nx, t.pe, y, t.ge, t.ki, t.ma⟩
        clear hR2 hR3 hPv hTv
        go_wp2
        go_region
        all_goals
          go_wp2
          exact bodyPost_ret (v := .tuple #[.agg #[.int .i64 a2, .int .i64 b2, .int .i64 c2], tmV ⟨t.st, t.wh, t.nx, t.pe, y, t.ge, t.ki, t.ma⟩]) (by simp [results, Tryd.results6, go_sem, z0, z1, z2, r0, r1, r2, r3, r4, r5, r6, r7]) rfl
            ⟨a2, b2, c2, ⟨t.st, t.wh, t.nx, t.pe, y, t.ge, t.ki, t.ma⟩, rfl, by first | exact hF | exact hF2⟩
      · go_wp2_with fail
        go_at_call 22; refine (l1Num_any 100000 (by omega) (by omega) hC8).mono ?_; rintro e w8 ⟨y, y0, y1, rfl, hC9, hg⟩
        replace hR2 := g_block hg hR2 (by omega)
        replace hR3 := g_block hg hR3 (by omega)
        replace hPv := g_block hg hPv (by omega)
        replace hTv := g_block hg hTv (by omega)
        replace hbb := hbb.trans (b_grown hg hgB hbb.size)
        clear hg
        obtain ⟨z0, z1, z2, zf0, zf1, zf2⟩ := three hR2
        obtain ⟨v0, v1, v2, vf0, vf1, vf2⟩ := three hPv
        obtain ⟨r0, r1, r2, r3, r4, r5, r6, r7⟩ := eight_cells (t := ⟨0, 0, 0, 0, 0, 0, 0, 0⟩) hR3
        obtain ⟨p0, p1, p2, p3, p4, p5, p6, p7⟩ := eight_free hR3
        obtain ⟨t0, t1, t2, t3, t4, t5, t6, t7⟩ := eight_cells (t := t) hTv
        have hT4 := eight_free hTv
        obtain ⟨u0, u1, u2, u3, u4, u5, u6, u7⟩ := hT4
        have hF := b_fin (b_set hbb (b := w3.heap.size) (by omega) 5 (.int .i64 y)) (x := w.heap.size) (y := w.heap.size + 1) (Nat.le_refl _) (Nat.le_succ _) a2 b2 c2 ⟨t.st, t.wh, t.nx, t.pe, t.pl, y, t.ki, t.ma⟩
        have hF2 := b_fin2 (b_set hbb (b := w3.heap.size) (by omega) 5 (.int .i64 y)) (x := w.heap.size) (y := w.heap.size + 1) (Nat.le_refl _) (Nat.le_succ _) a2 b2 c2 ⟨t.st, t.wh, t.nx, t.pe, t.pl, y, t.ki, t.ma⟩
        clear hR2 hR3 hPv hTv
        go_wp2
        go_region
        all_goals
          go_wp2
          exact bodyPost_ret (v := .tuple #[.agg #[.int .i64 a2, .int .i64 b2, .int .i64 c2], tmV ⟨t.st, t.wh, t.nx, t.pe, t.pl, y, t.ki, t.ma⟩]) (by simp [results, Tryd.results6, go_sem, z0, z1, z2, r0, r1, r2, r3, r4, r5, r6, r7]) rfl
            ⟨a2, b2, c2, ⟨t.st, t.wh, t.nx, t.pe, t.pl, y, t.ki, t.ma⟩, rfl, by first | exact hF | exact hF2⟩
      · go_wp2_with fail
        go_at_call 21; refine (l1From_any (-1) 2 (by omega) (by omega) (by omega) hC8).mono ?_; rintro e w8 ⟨y, y0, y1, rfl, hC9, hg⟩
        replace hR2 := g_block hg hR2 (by omega)
        replace hR3 := g_block hg hR3 (by omega)
        replace hPv := g_block hg hPv (by omega)
        replace hTv := g_block hg hTv (by omega)
        replace hbb := hbb.trans (b_grown hg hgB hbb.size)
        clear hg
        obtain ⟨z0, z1, z2, zf0, zf1, zf2⟩ := three hR2
        obtain ⟨v0, v1, v2, vf0, vf1, vf2⟩ := three hPv
        obtain ⟨r0, r1, r2, r3, r4, r5, r6, r7⟩ := eight_cells (t := ⟨0, 0, 0, 0, 0, 0, 0, 0⟩) hR3
        obtain ⟨p0, p1, p2, p3, p4, p5, p6, p7⟩ := eight_free hR3
        obtain ⟨t0, t1, t2, t3, t4, t5, t6, t7⟩ := eight_cells (t := t) hTv
        have hT4 := eight_free hTv
        obtain ⟨u0, u1, u2, u3, u4, u5, u6, u7⟩ := hT4
        have hF := b_fin (b_set hbb (b := w3.heap.size) (by omega) 6 (.int .i64 y)) (x := w.heap.size) (y := w.heap.size + 1) (Nat.le_refl _) (Nat.le_succ _) a2 b2 c2 ⟨t.st, t.wh, t.nx, t.pe, t.pl, t.ge, y, t.ma⟩
        have hF2 := b_fin2 (b_set hbb (b := w3.heap.size) (by omega) 6 (.int .i64 y)) (x := w.heap.size) (y := w.heap.size + 1) (Nat.le_refl _) (Nat.le_succ _) a2 b2 c2 ⟨t.st, t.wh, t.nx, t.pe, t.pl, t.ge, y, t.ma⟩
        clear hR2 hR3 hPv hTv
        go_wp2
        go_region
        all_goals
          go_wp2
          exact bodyPost_ret (v := .tuple #[.agg #[.int .i64 a2, .int .i64 b2, .int .i64 c2], tmV ⟨t.st, t.wh, t.nx, t.pe, t.pl, t.ge, y, t.ma⟩]) (by simp [results, Tryd.results6, go_sem, z0, z1, z2, r0, r1, r2, r3, r4, r5, r6, r7]) rfl
            ⟨a2, b2, c2, ⟨t.st, t.wh, t.nx, t.pe, t.pl, t.ge, y, t.ma⟩, rfl, by first | exact hF | exact hF2⟩
      · go_wp2_with fail
        go_at_call 22; refine (l1Num_any 1000000001 (by omega) (by omega) hC8).mono ?_; rintro e w8 ⟨y, y0, y1, rfl, hC9, hg⟩
        replace hR2 := g_block hg hR2 (by omega)
        replace hR3 := g_block hg hR3 (by omega)
        replace hPv := g_block hg hPv (by omega)
        replace hTv := g_block hg hTv (by omega)
        replace hbb := hbb.trans (b_grown hg hgB hbb.size)
        clear hg
        obtain ⟨z0, z1, z2, zf0, zf1, zf2⟩ := three hR2
        obtain ⟨v0, v1, v2, vf0, vf1, vf2⟩ := three hPv
        obtain ⟨r0, r1, r2, r3, r4, r5, r6, r7⟩ := eight_cells (t := ⟨0, 0, 0, 0, 0, 0, 0, 0⟩) hR3
        obtain ⟨p0, p1, p2, p3, p4, p5, p6, p7⟩ := eight_free hR3
        obtain ⟨t0, t1, t2, t3, t4, t5, t6, t7⟩ := eight_cells (t := t) hTv
        have hT4 := eight_free hTv
        obtain ⟨u0, u1, u2, u3, u4, u5, u6, u7⟩ := hT4
        have hF := b_fin (b_set hbb (b := w3.heap.size) (by omega) 7 (.int .i64 y)) (x := w.heap.size) (y := w.heap.size + 1) (Nat.le_refl _) (Nat.le_succ _) a2 b2 c2 ⟨t.st, t.wh, t.nx, t.pe, t.pl, t.ge, t.ki, y⟩
        have hF2 := b_fin2 (b_set hbb (b := w3.heap.size) (by omega) 7 (.int .i64 y)) (x := w.heap.size) (y := w.heap.size + 1) (Nat.le_refl _) (Nat.le_succ _) a2 b2 c2 ⟨t.st, t.wh, t.nx, t.pe, t.pl, t.ge, t.ki, y⟩
        clear hR2 hR3 hPv hTv
        go_wp2
        go_region
        all_goals
          go_wp2
          exact bodyPost_ret (v := .tuple #[.agg #[.int .i64 a2, .int .i64 b2, .int .i64 c2], tmV ⟨t.st, t.wh, t.nx, t.pe, t.pl, t.ge, t.ki, y⟩]) (by simp [results, Tryd.results6, go_sem, z0, z1, z2, r0, r1, r2, r3, r4, r5, r6, r7]) rfl
            ⟨a2, b2, c2, ⟨t.st, t.wh, t.nx, t.pe, t.pl, t.ge, t.ki, y⟩, rfl, by first | exact hF | exact hF2⟩

end Go.Proofs.YthhpnepcfpapcaaDoor
