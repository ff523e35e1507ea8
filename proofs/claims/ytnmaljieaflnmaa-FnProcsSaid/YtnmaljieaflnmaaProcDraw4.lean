/-
  The draws of the chapter on processors, fourth part.
-/
import Derived.Test.YtnmaljieaflnmaaProcDraw3
namespace Go.Proofs.Ytnmaljieaflnmaa
open Go.RowKit Go.Joins
set_option linter.unusedVariables false

/-- an Id is stored -/
theorem OwnAt.putId {w : World} {B g n cap : Nat} {f : Slots} (h : OwnAt w B g n cap f) {k : Nat} (hk : k < n) (x : Int) :
    OwnAt (w.setCell ⟨g, k * 2, none⟩ (.int .i64 x)) B g n cap (putF f k (x, (f k).2)) := by
  obtain ⟨h1, h2, h3, cur, hh, hs, hr⟩ := h
  refine ⟨h1, h2, h3, _, block_setCell hh (i := k * 2) (.int .i64 x), by simp [hs], fun i hi => ?_⟩
  have hk2 : k * 2 + 1 < cur.size := by omega
  by_cases e : i = k
  · subst e
    rw [putF_same]
    constructor
    · rw [Array.getElem?_setIfInBounds_self_of_lt (by omega)]
    · rw [Array.getElem?_setIfInBounds_ne (by omega)]; exact (hr i hi).2
  · rw [putF_other f _ e]
    constructor
    · rw [Array.getElem?_setIfInBounds_ne (by omega)]; exact (hr i hi).1
    · rw [Array.getElem?_setIfInBounds_ne (by omega)]; exact (hr i hi).2
theorem OwnAt.ne_type {w : World} {B g n cap b : Nat} {f : Slots} {cs : Array Value} {t : TypeId} (h : OwnAt w B g n cap f) (hb : w.heap[b]? = some (.cells cs t (0, 0))) (ht : t ≠ 35) : b ≠ g := by
  rintro rfl
  obtain ⟨_, _, _, cur, hh, _⟩ := h
  rw [hh] at hb
  injection hb with hb
  injection hb with _ h2 _
  exact ht h2.symm
abbrev set3 (w : World) (E : Nat) (x y z : Value) : World := ((w.setCell ⟨E, 0, none⟩ x).setCell ⟨E, 1, none⟩ y).setCell ⟨E, 2, none⟩ z
theorem pack3 {w : World} {E : Nat} {x0 x1 x2 : Value} {t : TypeId} (hX : w.heap[E]? = some (.cells #[x0, x1, x2] t (0, 0))) (x y z : Value) :
    (set3 w E x y z).heap[E]? = some (.cells #[x, y, z] t (0, 0)) :=
  block_setCell (i := 2) (block_setCell (i := 1) (block_setCell (i := 0) hX x) y) z
theorem far3b (w : World) (E : Nat) (x y z : Value) {p : Nat} (hn : p ≠ E) : (set3 w E x y z).heap[p]? = w.heap[p]? :=
  (Below.heap_setCell _ ⟨E, 2, none⟩ _ p hn).trans ((Below.heap_setCell _ ⟨E, 1, none⟩ _ p hn).trans (Below.heap_setCell _ ⟨E, 0, none⟩ _ p hn))
theorem b_set3 {W w : World} {n E : Nat} (h : Below n W w) (hE : n ≤ E) (x y z : Value) : Below n W (set3 w E x y z) :=
  ((h.setCell (p := ⟨E, 0, none⟩) hE x).setCell (p := ⟨E, 1, none⟩) hE y).setCell (p := ⟨E, 2, none⟩) hE z
theorem o_set3 {w : World} {B n E : Nat} {v : Value} {f : Slots} (h : OwnRow w B v n f) (hb : some E ≠ v.ownBlock) (x y z : Value) : OwnRow (set3 w E x y z) B v n f :=
  ((h.setNe hb 0 x).setNe hb 1 y).setNe hb 2 z
theorem cur_set3 {w : World} {B g len E : Nat} {sl : Value} (h : CurAt w B g sl len) (hb : B ≤ E) (hn : E ≠ g) (x y z : Value) : CurAt (set3 w E x y z) B g sl len :=
  ((h.set hb hn 0 x).set hb hn 1 y).set hb hn 2 z

set_option maxRecDepth 100000 in
set_option maxHeartbeats 8000000 in
theorem drawProcOk_any {len : Nat} {sl : Value} {w : World} (hlen : len ≤ 4096) (hcode : CodeAt w w.heap.size sl len) :
    Calls Try.prog 11 #[sl] w fun x w' => ∃ (a b c : Int) (v : Value) (n : Nat) (f : Slots) (l e d : Int), x = .returned (.tuple #[.agg #[.int .i64 a, .int .i64 b, .int .i64 c], prV v l e d]) ∧ OwnRow w' w.heap.size v n f ∧ n ≤ 31 ∧ Below w.heap.size w w' := by
  have k0 := ((Below.refl w.heap.size w).alloc (Nat.le_refl _) (.cells #[.int .i64 0, .int .i64 0, .int .i64 0] 25)).alloc (by simp) (.cells #[.slice none 0 0, .int .i64 0, .int .i64 0, .int .i64 0] 28)
  have e0 : (w.alloc (.cells #[.int .i64 0, .int .i64 0, .int .i64 0] 25)).heap.size = w.heap.size + 1 := by simp
  have e1 : ((w.alloc (.cells #[.int .i64 0, .int .i64 0, .int .i64 0] 25)).alloc (.cells #[.slice none 0 0, .int .i64 0, .int .i64 0, .int .i64 0] 28)).heap.size = w.heap.size + 2 := by simp
  have hR2 := alloc_block (.cells #[.slice none 0 0, .int .i64 0, .int .i64 0, .int .i64 0] 28) (heap_alloc_new w (.cells #[.int .i64 0, .int .i64 0, .int .i64 0] 25))
  have hR3 := heap_alloc_new (w.alloc (.cells #[.int .i64 0, .int .i64 0, .int .i64 0] 25)) (.cells #[.slice none 0 0, .int .i64 0, .int .i64 0, .int .i64 0] 28)
  rw [e0] at hR3
  have hcode2 := hcode.below k0
  have hgB : w.heap.size ≤ w.heap.size + 2 := by omega
  go_enter Try.func11, Try.ntmps11
  go_wp2_with fail
  go_at_call 39; refine (l1New_any (w.heap.size + 2) e1.symm hlen hcode2 (by omega)).mono ?_; rintro x w1 ⟨rfl, hC1, hb1⟩
  replace hR2 := b_block hb1 hR2 (by omega)
  replace hR3 := b_block hb1 hR3 (by omega)
  have hbb := k0.trans (hb1.mono (by omega))
  clear hb1 k0 e0 e1 hcode2
  go_wp2_with fail
  go_at_call 40; refine (l1DrawPlan_any hC1).mono ?_; rintro x w2 ⟨a, b, c, ⟨_, ⟨b0, b1⟩, _⟩, rfl, hC2, hg⟩
  replace hR2 := alloc_block (.cells #[.int .i64 a, .int .i64 b, .int .i64 c] 25) (g_block hg hR2 (by omega))
  replace hR3 := alloc_block (.cells #[.int .i64 a, .int .i64 b, .int .i64 c] 25) (g_block hg hR3 (by omega))
  have hlt2 := hC2.lt
  have hPv := heap_alloc_new w2 (.cells #[.int .i64 a, .int .i64 b, .int .i64 c] 25)
  replace hbb := (hbb.trans (b_grown hg hgB hbb.size)).alloc (by omega) (.cells #[.int .i64 a, .int .i64 b, .int .i64 c] 25)
  have hC3 := hC2.alloc (.cells #[.int .i64 a, .int .i64 b, .int .i64 c] 25)
  have hs2 : w2.heap.size < (w2.alloc (.cells #[.int .i64 a, .int .i64 b, .int .i64 c] 25)).heap.size := by simp
  obtain ⟨v0, v1, v2, vf0, vf1, vf2⟩ := three hPv
  clear hg hC1
  go_wp2_with fail
  go_at_call 41; refine (l4Draw_any a b c b0 (by omega) hC3).mono ?_; rintro x w3 ⟨v, n, f, l, e, d, rfl, hO, hL, hC4, hg⟩
  clear v0 v1 v2 vf0 vf1 vf2
  obtain ⟨va, vc, hv⟩ := hO.row.form
  subst hv
  replace hR2 := alloc_block (.cells #[(.slice va n vc), .int .i64 l, .int .i64 e, .int .i64 d] 28) (g_block hg hR2 (by omega))
  replace hR3 := alloc_block (.cells #[(.slice va n vc), .int .i64 l, .int .i64 e, .int .i64 d] 28) (g_block hg hR3 (by omega))
  replace hPv := alloc_block (.cells #[(.slice va n vc), .int .i64 l, .int .i64 e, .int .i64 d] 28) (g_block hg hPv (by omega))
  have hX := heap_alloc_new w3 (.cells #[(.slice va n vc), .int .i64 l, .int .i64 e, .int .i64 d] 28)
  have hlt3 : w2.heap.size < w3.heap.size := Nat.lt_of_lt_of_le hs2 hg.size
  have hXN := hO.notNew (Nat.le_refl w3.heap.size)
  have hPN := hO.notLow (b := w2.heap.size) hs2
  replace hO := (hO.mono (B' := w.heap.size + 3) (Nat.le_trans hlt2 (Nat.le_of_lt hs2))).alloc (.cells #[(.slice va n vc), .int .i64 l, .int .i64 e, .int .i64 d] 28)
  replace hbb := (hbb.trans (b_grown hg hgB hbb.size)).alloc (by omega) (.cells #[(.slice va n vc), .int .i64 l, .int .i64 e, .int .i64 d] 28)
  have hC5 := hC4.alloc (.cells #[(.slice va n vc), .int .i64 l, .int .i64 e, .int .i64 d] 28)
  have hn31 : n ≤ 31 := Nat.le_succ_of_le hL.1.2
  have hs3 : w3.heap.size < (w3.alloc (.cells #[(.slice va n vc), .int .i64 l, .int .i64 e, .int .i64 d] 28)).heap.size := by simp
  clear hg hC2 hC3 hC4 hs2 hL
  go_wp2_with fail
  go_at_call 42; refine (l1Once_any 3 (by omega) (by omega) hC5).mono ?_; rintro x w5 ⟨q, rfl, hC, hg⟩
  replace hs3 := Nat.lt_of_lt_of_le hs3 hg.size
  replace hR2 := g_block hg hR2 (by omega); replace hR3 := g_block hg hR3 (by omega); replace hPv := g_block hg hPv (by omega); replace hX := g_block hg hX (by omega)
  replace hbb := hbb.trans (b_grown hg hgB hbb.size)
  replace hO := hO.kept hg (fun g' e => by injection e; omega)
  clear hg
  clear hC5
  cases q
  · obtain ⟨t0, t1, t2, t3, tf0, tf1, tf2, tf3⟩ := four hX
    go_wp2_with fail
    go_at_call 42; refine (l1Once_any 6 (by omega) (by omega) hC).mono ?_; rintro x w20 ⟨q6, rfl, hC20, hg⟩
    clear t0 t1 t2 t3 tf0 tf1 tf2 tf3
    replace hR2 := g_block hg hR2 (by omega); replace hR3 := g_block hg hR3 (by omega); replace hPv := g_block hg hPv (by omega); replace hX := g_block hg hX (by omega)
    replace hbb := hbb.trans (b_grown hg hgB hbb.size)
    replace hO := hO.kept hg (fun g' e => by injection e; omega)
    clear hg
    cases q6
    · have hO8 := (((((((hO.set (b := w.heap.size) (by omega) 0 (.int .i64 a)).set (b := w.heap.size) (by omega) 1 (.int .i64 b)).set (b := w.heap.size) (by omega) 2 (.int .i64 c)).set (b := w.heap.size + 1) (by omega) 0 (.slice va n vc)).set (b := w.heap.size + 1) (by omega) 1 (.int .i64 l)).set (b := w.heap.size + 1) (by omega) 2 (.int .i64 e)).set (b := w.heap.size + 1) (by omega) 3 (.int .i64 d))
      have hb8 := (((((((hbb.setCell (p := ⟨w.heap.size, 0, none⟩) (Nat.le_refl _) (.int .i64 a)).setCell (p := ⟨w.heap.size, 1, none⟩) (Nat.le_refl _) (.int .i64 b)).setCell (p := ⟨w.heap.size, 2, none⟩) (Nat.le_refl _) (.int .i64 c)).setCell (p := ⟨w.heap.size + 1, 0, none⟩) (Nat.le_succ _) (.slice va n vc)).setCell (p := ⟨w.heap.size + 1, 1, none⟩) (Nat.le_succ _) (.int .i64 l)).setCell (p := ⟨w.heap.size + 1, 2, none⟩) (Nat.le_succ _) (.int .i64 e)).setCell (p := ⟨w.heap.size + 1, 3, none⟩) (Nat.le_succ _) (.int .i64 d))
      obtain ⟨z0, z1, z2, zf0, zf1, zf2⟩ := three hR2
      obtain ⟨p0, p1, p2, pf0, pf1, pf2⟩ := three hPv
      obtain ⟨r0, r1, r2, r3, rf0, rf1, rf2, rf3⟩ := four hR3
      obtain ⟨t0, t1, t2, t3, tf0, tf1, tf2, tf3⟩ := four hX
      clear hR2 hR3 hPv hX
      go_wp2_with fail
      go_region
      all_goals
        go_wp2
        exact bodyPost_ret (v := .tuple #[.agg #[.int .i64 a, .int .i64 b, .int .i64 c], prV (.slice va n vc) l e d]) (by simp [results, Try.results11, go_sem, z0, z1, z2, r0, r1, r2, r3]) rfl ⟨_, _, _, _, n, f, _, _, _, rfl, (hO8.mono (show w.heap.size ≤ w.heap.size + 3 by omega)).drew, hn31, hb8.drew⟩
    · by_cases hn1 : 1 < n
      · rcases hO with ⟨h0, _⟩ | ⟨gl, cap, ev, hO⟩
        · omega
        injection ev with ev1 ev2 ev3
        subst ev1 ev3
        have hn1i : (1 : Int) < (n : Int) := by omega
        have hn0i : (0 : Int) < (n : Int) := by omega
        obtain ⟨c0, _⟩ := hO.cells (show 0 < n by omega)
        obtain ⟨c2, _⟩ := hO.cells hn1
        have cf := hO.free (1 * 2)
        simp only [Nat.zero_mul, Nat.one_mul] at c0 c2 cf
        obtain ⟨t0, t1, t2, t3, tf0, tf1, tf2, tf3⟩ := four hX
        have hgl := hO.1
        have hEl := hO.lt
        have qP := hO.ne_type hPv (by decide)
        have qX := hO.ne_type hX (by decide)
        have hO21 : OwnAt (w20.setCell ⟨gl, 2, none⟩ (.int .i64 (f 0).1)).drew _ gl n _ _ := hO.putId hn1 (f 0).1
        have hR22 : (w20.setCell ⟨gl, 2, none⟩ (.int .i64 (f 0).1)).drew.heap[w.heap.size]? = _ := (Below.heap_setCell w20 ⟨gl, 2, none⟩ (.int .i64 (f 0).1) w.heap.size (show w.heap.size ≠ gl by omega)).trans hR2
        have hR32 : (w20.setCell ⟨gl, 2, none⟩ (.int .i64 (f 0).1)).drew.heap[w.heap.size + 1]? = _ := (Below.heap_setCell w20 ⟨gl, 2, none⟩ (.int .i64 (f 0).1) (w.heap.size + 1) (show w.heap.size + 1 ≠ gl by omega)).trans hR3
        have hPv2 : (w20.setCell ⟨gl, 2, none⟩ (.int .i64 (f 0).1)).drew.heap[w2.heap.size]? = _ := (Below.heap_setCell w20 ⟨gl, 2, none⟩ (.int .i64 (f 0).1) w2.heap.size qP).trans hPv
        have hX2 : (w20.setCell ⟨gl, 2, none⟩ (.int .i64 (f 0).1)).drew.heap[w3.heap.size]? = _ := (Below.heap_setCell w20 ⟨gl, 2, none⟩ (.int .i64 (f 0).1) w3.heap.size qX).trans hX
        have hbb2 : Below w.heap.size w (w20.setCell ⟨gl, 2, none⟩ (.int .i64 (f 0).1)).drew := (hbb.setCell (p := ⟨gl, 2, none⟩) (by show w.heap.size ≤ gl; omega) (.int .i64 (f 0).1)).drew
        go_wp2_with fail
        go_region
        all_goals
          clear t0 t1 t2 t3 tf0 tf1 tf2 tf3 c0 c2 cf hR2 hR3 hPv hX hbb hO qP qX hEl
          generalize (w20.setCell ⟨gl, 2, none⟩ (.int .i64 (f 0).1)).drew = wq at hO21 hR22 hR32 hPv2 hX2 hbb2 ⊢
          have hR2 := hR22; have hR3 := hR32; have hPv := hPv2; have hX := hX2; have hbb := hbb2; have hO := hO21.own
          clear hR22 hR32 hPv2 hX2 hbb2 hO21
          have hO8 := (((((((hO.set (b := w.heap.size) (by omega) 0 (.int .i64 a)).set (b := w.heap.size) (by omega) 1 (.int .i64 b)).set (b := w.heap.size) (by omega) 2 (.int .i64 c)).set (b := w.heap.size + 1) (by omega) 0 (.slice (some ⟨gl, 0, none⟩) n vc)).set (b := w.heap.size + 1) (by omega) 1 (.int .i64 l)).set (b := w.heap.size + 1) (by omega) 2 (.int .i64 e)).set (b := w.heap.size + 1) (by omega) 3 (.int .i64 d))
          have hb8 := (((((((hbb.setCell (p := ⟨w.heap.size, 0, none⟩) (Nat.le_refl _) (.int .i64 a)).setCell (p := ⟨w.heap.size, 1, none⟩) (Nat.le_refl _) (.int .i64 b)).setCell (p := ⟨w.heap.size, 2, none⟩) (Nat.le_refl _) (.int .i64 c)).setCell (p := ⟨w.heap.size + 1, 0, none⟩) (Nat.le_succ _) (.slice (some ⟨gl, 0, none⟩) n vc)).setCell (p := ⟨w.heap.size + 1, 1, none⟩) (Nat.le_succ _) (.int .i64 l)).setCell (p := ⟨w.heap.size + 1, 2, none⟩) (Nat.le_succ _) (.int .i64 e)).setCell (p := ⟨w.heap.size + 1, 3, none⟩) (Nat.le_succ _) (.int .i64 d))
          obtain ⟨z0, z1, z2, zf0, zf1, zf2⟩ := three hR2
          obtain ⟨p0, p1, p2, pf0, pf1, pf2⟩ := three hPv
          obtain ⟨r0, r1, r2, r3, rf0, rf1, rf2, rf3⟩ := four hR3
          obtain ⟨t0, t1, t2, t3, tf0, tf1, tf2, tf3⟩ := four hX
          clear hR2 hR3 hPv hX
          go_wp2_with fail
          go_region
          all_goals
            go_wp2
            exact bodyPost_ret (v := .tuple #[.agg #[.int .i64 a, .int .i64 b, .int .i64 c], prV (.slice (some ⟨gl, 0, none⟩) n vc) l e d]) (by simp [results, Try.results11, go_sem, z0, z1, z2, r0, r1, r2, r3]) rfl ⟨_, _, _, _, n, _, _, _, _, rfl, (hO8.mono (show w.heap.size ≤ w.heap.size + 3 by omega)).drew, hn31, hb8.drew⟩
      · have hn1i : ¬ (1 : Int) < (n : Int) := by omega
        obtain ⟨t0, t1, t2, t3, tf0, tf1, tf2, tf3⟩ := four hX
        have hO8 := (((((((hO.set (b := w.heap.size) (by omega) 0 (.int .i64 a)).set (b := w.heap.size) (by omega) 1 (.int .i64 b)).set (b := w.heap.size) (by omega) 2 (.int .i64 c)).set (b := w.heap.size + 1) (by omega) 0 (.slice va n vc)).set (b := w.heap.size + 1) (by omega) 1 (.int .i64 l)).set (b := w.heap.size + 1) (by omega) 2 (.int .i64 e)).set (b := w.heap.size + 1) (by omega) 3 (.int .i64 d))
        have hb8 := (((((((hbb.setCell (p := ⟨w.heap.size, 0, none⟩) (Nat.le_refl _) (.int .i64 a)).setCell (p := ⟨w.heap.size, 1, none⟩) (Nat.le_refl _) (.int .i64 b)).setCell (p := ⟨w.heap.size, 2, none⟩) (Nat.le_refl _) (.int .i64 c)).setCell (p := ⟨w.heap.size + 1, 0, none⟩) (Nat.le_succ _) (.slice va n vc)).setCell (p := ⟨w.heap.size + 1, 1, none⟩) (Nat.le_succ _) (.int .i64 l)).setCell (p := ⟨w.heap.size + 1, 2, none⟩) (Nat.le_succ _) (.int .i64 e)).setCell (p := ⟨w.heap.size + 1, 3, none⟩) (Nat.le_succ _) (.int .i64 d))
        obtain ⟨z0, z1, z2, zf0, zf1, zf2⟩ := three hR2
        obtain ⟨p0, p1, p2, pf0, pf1, pf2⟩ := three hPv
        obtain ⟨r0, r1, r2, r3, rf0, rf1, rf2, rf3⟩ := four hR3
        clear hR2 hR3 hPv hX
        go_wp2_with fail
        go_region
        all_goals
          go_wp2
          exact bodyPost_ret (v := .tuple #[.agg #[.int .i64 a, .int .i64 b, .int .i64 c], prV (.slice va n vc) l e d]) (by simp [results, Try.results11, go_sem, z0, z1, z2, r0, r1, r2, r3]) rfl ⟨_, _, _, _, n, f, _, _, _, rfl, (hO8.mono (show w.heap.size ≤ w.heap.size + 3 by omega)).drew, hn31, hb8.drew⟩
  · go_wp2_with fail
    go_at_call 43; refine (l1Below_any 5 (by omega) (by omega) hC).mono ?_; rintro x w6 ⟨y, y0, y1, rfl, hC6, hg⟩
    replace hs3 := Nat.lt_of_lt_of_le hs3 hg.size
    replace hR2 := g_block hg hR2 (by omega); replace hR3 := g_block hg hR3 (by omega); replace hPv := g_block hg hPv (by omega); replace hX := g_block hg hX (by omega)
    replace hbb := hbb.trans (b_grown hg hgB hbb.size)
    replace hO := hO.kept hg (fun g' e => by injection e; omega)
    clear hg
    clear hC
    obtain rfl | rfl | rfl | rfl | rfl : y = 0 ∨ y = 1 ∨ y = 2 ∨ y = 3 ∨ y = 4 := by omega
    · go_wp2_with fail
      go_at_call 44; refine (l2DrawAny_any hC6).mono ?_; rintro x w7 ⟨v', n', f', rfl, hO', hL', hC7, hg⟩
      replace hR2 := g_block hg hR2 (by omega); replace hR3 := g_block hg hR3 (by omega); replace hPv := g_block hg hPv (by omega); replace hX := g_block hg hX (by omega)
      replace hbb := hbb.trans (b_grown hg hgB hbb.size)
      clear hO
      clear hg
      obtain ⟨va', vc', hv⟩ := hO'.row.form
      subst hv
      have hXN' := hO'.notLow (b := w3.heap.size) (by omega)
      have hO := hO'.mono (B' := w.heap.size + 3) (by omega)
      clear hO' hXN hPN hn31
      have hXq : (w7.setCell ⟨w3.heap.size, 0, none⟩ (.slice va' n' vc')).heap[w3.heap.size]? = some (.cells #[(.slice va' n' vc'), .int .i64 l, .int .i64 e, .int .i64 d] 28) := block_setCell (i := 0) hX (.slice va' n' vc')
      have hR2q : (w7.setCell ⟨w3.heap.size, 0, none⟩ (.slice va' n' vc')).heap[w.heap.size]? = _ := (Below.heap_setCell w7 ⟨w3.heap.size, 0, none⟩ (.slice va' n' vc') w.heap.size (show w.heap.size ≠ w3.heap.size by omega)).trans hR2
      have hR3q : (w7.setCell ⟨w3.heap.size, 0, none⟩ (.slice va' n' vc')).heap[w.heap.size + 1]? = _ := (Below.heap_setCell w7 ⟨w3.heap.size, 0, none⟩ (.slice va' n' vc') (w.heap.size + 1) (show w.heap.size + 1 ≠ w3.heap.size by omega)).trans hR3
      have hPvq : (w7.setCell ⟨w3.heap.size, 0, none⟩ (.slice va' n' vc')).heap[w2.heap.size]? = _ := (Below.heap_setCell w7 ⟨w3.heap.size, 0, none⟩ (.slice va' n' vc') w2.heap.size (show w2.heap.size ≠ w3.heap.size by omega)).trans hPv
      have hbbq : Below w.heap.size w (w7.setCell ⟨w3.heap.size, 0, none⟩ (.slice va' n' vc')) := hbb.setCell (p := ⟨w3.heap.size, 0, none⟩) (by show w.heap.size ≤ w3.heap.size; omega) (.slice va' n' vc')
      have hOq : OwnRow (w7.setCell ⟨w3.heap.size, 0, none⟩ (.slice va' n' vc')) _ _ _ _ := hO.setNe hXN' 0 (.slice va' n' vc')
      have hCq := hC7.set (b := w3.heap.size) (by omega) (by omega) 0 (.slice va' n' vc')
      obtain ⟨t0, t1, t2, t3, tf0, tf1, tf2, tf3⟩ := four hX
      go_wp2_with fail
      clear t0 t1 t2 t3 tf0 tf1 tf2 tf3 hR2 hR3 hPv hX hbb hO hC7
      generalize (w7.setCell ⟨w3.heap.size, 0, none⟩ (.slice va' n' vc')) = wr at hXq hR2q hR3q hPvq hbbq hOq hCq ⊢
      have hR2 := hR2q; have hR3 := hR3q; have hPv := hPvq; have hX := hXq; have hbb := hbbq; have hO := hOq; have hC := hCq
      clear hXq hR2q hR3q hPvq hbbq hOq hCq
      have hXN := hXN'; have hn31 := hL'
      clear hXN' hL'
      go_at_call 42; refine (l1Once_any 6 (by omega) (by omega) hC).mono ?_; rintro x w20 ⟨q6, rfl, hC20, hg⟩
      replace hR2 := g_block hg hR2 (by omega); replace hR3 := g_block hg hR3 (by omega); replace hPv := g_block hg hPv (by omega); replace hX := g_block hg hX (by omega)
      replace hbb := hbb.trans (b_grown hg hgB hbb.size)
      replace hO := hO.kept hg (fun g' e => by injection e; omega)
      clear hg
      cases q6
      · have hO8 := (((((((hO.set (b := w.heap.size) (by omega) 0 (.int .i64 a)).set (b := w.heap.size) (by omega) 1 (.int .i64 b)).set (b := w.heap.size) (by omega) 2 (.int .i64 c)).set (b := w.heap.size + 1) (by omega) 0 (.slice va' n' vc')).set (b := w.heap.size + 1) (by omega) 1 (.int .i64 l)).set (b := w.heap.size + 1) (by omega) 2 (.int .i64 e)).set (b := w.heap.size + 1) (by omega) 3 (.int .i64 d))
        have hb8 := (((((((hbb.setCell (p := ⟨w.heap.size, 0, none⟩) (Nat.le_refl _) (.int .i64 a)).setCell (p := ⟨w.heap.size, 1, none⟩) (Nat.le_refl _) (.int .i64 b)).setCell (p := ⟨w.heap.size, 2, none⟩) (Nat.le_refl _) (.int .i64 c)).setCell (p := ⟨w.heap.size + 1, 0, none⟩) (Nat.le_succ _) (.slice va' n' vc')).setCell (p := ⟨w.heap.size + 1, 1, none⟩) (Nat.le_succ _) (.int .i64 l)).setCell (p := ⟨w.heap.size + 1, 2, none⟩) (Nat.le_succ _) (.int .i64 e)).setCell (p := ⟨w.heap.size + 1, 3, none⟩) (Nat.le_succ _) (.int .i64 d))
        obtain ⟨z0, z1, z2, zf0, zf1, zf2⟩ := three hR2
        obtain ⟨p0, p1, p2, pf0, pf1, pf2⟩ := three hPv
        obtain ⟨r0, r1, r2, r3, rf0, rf1, rf2, rf3⟩ := four hR3
        obtain ⟨t0, t1, t2, t3, tf0, tf1, tf2, tf3⟩ := four hX
        clear hR2 hR3 hPv hX
        go_wp2_with fail
        go_region
        all_goals
          go_wp2
          exact bodyPost_ret (v := .tuple #[.agg #[.int .i64 a, .int .i64 b, .int .i64 c], prV (.slice va' n' vc') l e d]) (by simp [results, Try.results11, go_sem, z0, z1, z2, r0, r1, r2, r3]) rfl ⟨_, _, _, _, n', f', _, _, _, rfl, (hO8.mono (show w.heap.size ≤ w.heap.size + 3 by omega)).drew, hn31, hb8.drew⟩
      · by_cases hn1 : 1 < n'
        · rcases hO with ⟨h0, _⟩ | ⟨gl, cap, ev, hO⟩
          · omega
          injection ev with ev1 ev2 ev3
          subst ev1 ev3
          have hn1i : (1 : Int) < (n' : Int) := by omega
          have hn0i : (0 : Int) < (n' : Int) := by omega
          obtain ⟨c0, _⟩ := hO.cells (show 0 < n' by omega)
          obtain ⟨c2, _⟩ := hO.cells hn1
          have cf := hO.free (1 * 2)
          simp only [Nat.zero_mul, Nat.one_mul] at c0 c2 cf
          obtain ⟨t0, t1, t2, t3, tf0, tf1, tf2, tf3⟩ := four hX
          have hgl := hO.1
          have hEl := hO.lt
          have qP := hO.ne_type hPv (by decide)
          have qX := hO.ne_type hX (by decide)
          have hO21 : OwnAt (w20.setCell ⟨gl, 2, none⟩ (.int .i64 (f' 0).1)).drew _ gl n' _ _ := hO.putId hn1 (f' 0).1
          have hR22 : (w20.setCell ⟨gl, 2, none⟩ (.int .i64 (f' 0).1)).drew.heap[w.heap.size]? = _ := (Below.heap_setCell w20 ⟨gl, 2, none⟩ (.int .i64 (f' 0).1) w.heap.size (show w.heap.size ≠ gl by omega)).trans hR2
          have hR32 : (w20.setCell ⟨gl, 2, none⟩ (.int .i64 (f' 0).1)).drew.heap[w.heap.size + 1]? = _ := (Below.heap_setCell w20 ⟨gl, 2, none⟩ (.int .i64 (f' 0).1) (w.heap.size + 1) (show w.heap.size + 1 ≠ gl by omega)).trans hR3
          have hPv2 : (w20.setCell ⟨gl, 2, none⟩ (.int .i64 (f' 0).1)).drew.heap[w2.heap.size]? = _ := (Below.heap_setCell w20 ⟨gl, 2, none⟩ (.int .i64 (f' 0).1) w2.heap.size qP).trans hPv
          have hX2 : (w20.setCell ⟨gl, 2, none⟩ (.int .i64 (f' 0).1)).drew.heap[w3.heap.size]? = _ := (Below.heap_setCell w20 ⟨gl, 2, none⟩ (.int .i64 (f' 0).1) w3.heap.size qX).trans hX
          have hbb2 : Below w.heap.size w (w20.setCell ⟨gl, 2, none⟩ (.int .i64 (f' 0).1)).drew := (hbb.setCell (p := ⟨gl, 2, none⟩) (by show w.heap.size ≤ gl; omega) (.int .i64 (f' 0).1)).drew
          go_wp2_with fail
          go_region
          all_goals
            clear t0 t1 t2 t3 tf0 tf1 tf2 tf3 c0 c2 cf hR2 hR3 hPv hX hbb hO qP qX hEl
            generalize (w20.setCell ⟨gl, 2, none⟩ (.int .i64 (f' 0).1)).drew = wq at hO21 hR22 hR32 hPv2 hX2 hbb2 ⊢
            have hR2 := hR22; have hR3 := hR32; have hPv := hPv2; have hX := hX2; have hbb := hbb2; have hO := hO21.own
            clear hR22 hR32 hPv2 hX2 hbb2 hO21
            have hO8 := (((((((hO.set (b := w.heap.size) (by omega) 0 (.int .i64 a)).set (b := w.heap.size) (by omega) 1 (.int .i64 b)).set (b := w.heap.size) (by omega) 2 (.int .i64 c)).set (b := w.heap.size + 1) (by omega) 0 (.slice (some ⟨gl, 0, none⟩) n' vc')).set (b := w.heap.size + 1) (by omega) 1 (.int .i64 l)).set (b := w.heap.size + 1) (by omega) 2 (.int .i64 e)).set (b := w.heap.size + 1) (by omega) 3 (.int .i64 d))
            have hb8 := (((((((hbb.setCell (p := ⟨w.heap.size, 0, none⟩) (Nat.le_refl _) (.int .i64 a)).setCell (p := ⟨w.heap.size, 1, none⟩) (Nat.le_refl _) (.int .i64 b)).setCell (p := ⟨w.heap.size, 2, none⟩) (Nat.le_refl _) (.int .i64 c)).setCell (p := ⟨w.heap.size + 1, 0, none⟩) (Nat.le_succ _) (.slice (some ⟨gl, 0, none⟩) n' vc')).setCell (p := ⟨w.heap.size + 1, 1, none⟩) (Nat.le_succ _) (.int .i64 l)).setCell (p := ⟨w.heap.size + 1, 2, none⟩) (Nat.le_succ _) (.int .i64 e)).setCell (p := ⟨w.heap.size + 1, 3, none⟩) (Nat.le_succ _) (.int .i64 d))
            obtain ⟨z0, z1, z2, zf0, zf1, zf2⟩ := three hR2
            obtain ⟨p0, p1, p2, pf0, pf1, pf2⟩ := three hPv
            obtain ⟨r0, r1, r2, r3, rf0, rf1, rf2, rf3⟩ := four hR3
            obtain ⟨t0, t1, t2, t3, tf0, tf1, tf2, tf3⟩ := four hX
            clear hR2 hR3 hPv hX
            go_wp2_with fail
            go_region
            all_goals
              go_wp2
              exact bodyPost_ret (v := .tuple #[.agg #[.int .i64 a, .int .i64 b, .int .i64 c], prV (.slice (some ⟨gl, 0, none⟩) n' vc') l e d]) (by simp [results, Try.results11, go_sem, z0, z1, z2, r0, r1, r2, r3]) rfl ⟨_, _, _, _, n', _, _, _, _, rfl, (hO8.mono (show w.heap.size ≤ w.heap.size + 3 by omega)).drew, hn31, hb8.drew⟩
        · have hn1i : ¬ (1 : Int) < (n' : Int) := by omega
          obtain ⟨t0, t1, t2, t3, tf0, tf1, tf2, tf3⟩ := four hX
          have hO8 := (((((((hO.set (b := w.heap.size) (by omega) 0 (.int .i64 a)).set (b := w.heap.size) (by omega) 1 (.int .i64 b)).set (b := w.heap.size) (by omega) 2 (.int .i64 c)).set (b := w.heap.size + 1) (by omega) 0 (.slice va' n' vc')).set (b := w.heap.size + 1) (by omega) 1 (.int .i64 l)).set (b := w.heap.size + 1) (by omega) 2 (.int .i64 e)).set (b := w.heap.size + 1) (by omega) 3 (.int .i64 d))
          have hb8 := (((((((hbb.setCell (p := ⟨w.heap.size, 0, none⟩) (Nat.le_refl _) (.int .i64 a)).setCell (p := ⟨w.heap.size, 1, none⟩) (Nat.le_refl _) (.int .i64 b)).setCell (p := ⟨w.heap.size, 2, none⟩) (Nat.le_refl _) (.int .i64 c)).setCell (p := ⟨w.heap.size + 1, 0, none⟩) (Nat.le_succ _) (.slice va' n' vc')).setCell (p := ⟨w.heap.size + 1, 1, none⟩) (Nat.le_succ _) (.int .i64 l)).setCell (p := ⟨w.heap.size + 1, 2, none⟩) (Nat.le_succ _) (.int .i64 e)).setCell (p := ⟨w.heap.size + 1, 3, none⟩) (Nat.le_succ _) (.int .i64 d))
          obtain ⟨z0, z1, z2, zf0, zf1, zf2⟩ := three hR2
          obtain ⟨p0, p1, p2, pf0, pf1, pf2⟩ := three hPv
          obtain ⟨r0, r1, r2, r3, rf0, rf1, rf2, rf3⟩ := four hR3
          clear hR2 hR3 hPv hX
          go_wp2_with fail
          go_region
          all_goals
            go_wp2
            exact bodyPost_ret (v := .tuple #[.agg #[.int .i64 a, .int .i64 b, .int .i64 c], prV (.slice va' n' vc') l e d]) (by simp [results, Try.results11, go_sem, z0, z1, z2, r0, r1, r2, r3]) rfl ⟨_, _, _, _, n', f', _, _, _, rfl, (hO8.mono (show w.heap.size ≤ w.heap.size + 3 by omega)).drew, hn31, hb8.drew⟩
    · go_wp2_with fail
      go_at_call 45; refine (l1From_any (-2) 9 (by omega) (by omega) (by omega) hC6).mono ?_; rintro x w7 ⟨z, _, _, rfl, hC7, hg⟩
      replace hR2 := g_block hg hR2 (by omega); replace hR3 := g_block hg hR3 (by omega); replace hPv := g_block hg hPv (by omega); replace hX := g_block hg hX (by omega)
      replace hbb := hbb.trans (b_grown hg hgB hbb.size)
      replace hO := hO.kept hg (fun g' e => by injection e; omega)
      clear hg
      have hXq : (w7.setCell ⟨w3.heap.size, 1, none⟩ (.int .i64 z)).heap[w3.heap.size]? = some (.cells #[(.slice va n vc), .int .i64 z, .int .i64 e, .int .i64 d] 28) := block_setCell (i := 1) hX (.int .i64 z)
      have hR2q : (w7.setCell ⟨w3.heap.size, 1, none⟩ (.int .i64 z)).heap[w.heap.size]? = _ := (Below.heap_setCell w7 ⟨w3.heap.size, 1, none⟩ (.int .i64 z) w.heap.size (show w.heap.size ≠ w3.heap.size by omega)).trans hR2
      have hR3q : (w7.setCell ⟨w3.heap.size, 1, none⟩ (.int .i64 z)).heap[w.heap.size + 1]? = _ := (Below.heap_setCell w7 ⟨w3.heap.size, 1, none⟩ (.int .i64 z) (w.heap.size + 1) (show w.heap.size + 1 ≠ w3.heap.size by omega)).trans hR3
      have hPvq : (w7.setCell ⟨w3.heap.size, 1, none⟩ (.int .i64 z)).heap[w2.heap.size]? = _ := (Below.heap_setCell w7 ⟨w3.heap.size, 1, none⟩ (.int .i64 z) w2.heap.size (show w2.heap.size ≠ w3.heap.size by omega)).trans hPv
      have hbbq : Below w.heap.size w (w7.setCell ⟨w3.heap.size, 1, none⟩ (.int .i64 z)) := hbb.setCell (p := ⟨w3.heap.size, 1, none⟩) (by show w.heap.size ≤ w3.heap.size; omega) (.int .i64 z)
      have hOq : OwnRow (w7.setCell ⟨w3.heap.size, 1, none⟩ (.int .i64 z)) _ _ _ _ := hO.setNe hXN 1 (.int .i64 z)
      have hCq := hC7.set (b := w3.heap.size) (by omega) (by omega) 1 (.int .i64 z)
      obtain ⟨t0, t1, t2, t3, tf0, tf1, tf2, tf3⟩ := four hX
      go_wp2_with fail
      clear t0 t1 t2 t3 tf0 tf1 tf2 tf3 hR2 hR3 hPv hX hbb hO hC7
      generalize (w7.setCell ⟨w3.heap.size, 1, none⟩ (.int .i64 z)) = wr at hXq hR2q hR3q hPvq hbbq hOq hCq ⊢
      have hR2 := hR2q; have hR3 := hR3q; have hPv := hPvq; have hX := hXq; have hbb := hbbq; have hO := hOq; have hC := hCq
      clear hXq hR2q hR3q hPvq hbbq hOq hCq
      go_at_call 42; refine (l1Once_any 6 (by omega) (by omega) hC).mono ?_; rintro x w20 ⟨q6, rfl, hC20, hg⟩
      replace hR2 := g_block hg hR2 (by omega); replace hR3 := g_block hg hR3 (by omega); replace hPv := g_block hg hPv (by omega); replace hX := g_block hg hX (by omega)
      replace hbb := hbb.trans (b_grown hg hgB hbb.size)
      replace hO := hO.kept hg (fun g' e => by injection e; omega)
      clear hg
      cases q6
      · have hO8 := (((((((hO.set (b := w.heap.size) (by omega) 0 (.int .i64 a)).set (b := w.heap.size) (by omega) 1 (.int .i64 b)).set (b := w.heap.size) (by omega) 2 (.int .i64 c)).set (b := w.heap.size + 1) (by omega) 0 (.slice va n vc)).set (b := w.heap.size + 1) (by omega) 1 (.int .i64 z)).set (b := w.heap.size + 1) (by omega) 2 (.int .i64 e)).set (b := w.heap.size + 1) (by omega) 3 (.int .i64 d))
        have hb8 := (((((((hbb.setCell (p := ⟨w.heap.size, 0, none⟩) (Nat.le_refl _) (.int .i64 a)).setCell (p := ⟨w.heap.size, 1, none⟩) (Nat.le_refl _) (.int .i64 b)).setCell (p := ⟨w.heap.size, 2, none⟩) (Nat.le_refl _) (.int .i64 c)).setCell (p := ⟨w.heap.size + 1, 0, none⟩) (Nat.le_succ _) (.slice va n vc)).setCell (p := ⟨w.heap.size + 1, 1, none⟩) (Nat.le_succ _) (.int .i64 z)).setCell (p := ⟨w.heap.size + 1, 2, none⟩) (Nat.le_succ _) (.int .i64 e)).setCell (p := ⟨w.heap.size + 1, 3, none⟩) (Nat.le_succ _) (.int .i64 d))
        obtain ⟨z0, z1, z2, zf0, zf1, zf2⟩ := three hR2
        obtain ⟨p0, p1, p2, pf0, pf1, pf2⟩ := three hPv
        obtain ⟨r0, r1, r2, r3, rf0, rf1, rf2, rf3⟩ := four hR3
        obtain ⟨t0, t1, t2, t3, tf0, tf1, tf2, tf3⟩ := four hX
        clear hR2 hR3 hPv hX
        go_wp2_with fail
        go_region
        all_goals
          go_wp2
          exact bodyPost_ret (v := .tuple #[.agg #[.int .i64 a, .int .i64 b, .int .i64 c], prV (.slice va n vc) z e d]) (by simp [results, Try.results11, go_sem, z0, z1, z2, r0, r1, r2, r3]) rfl ⟨_, _, _, _, n, f, _, _, _, rfl, (hO8.mono (show w.heap.size ≤ w.heap.size + 3 by omega)).drew, hn31, hb8.drew⟩
      · by_cases hn1 : 1 < n
        · rcases hO with ⟨h0, _⟩ | ⟨gl, cap, ev, hO⟩
          · omega
          injection ev with ev1 ev2 ev3
          subst ev1 ev3
          have hn1i : (1 : Int) < (n : Int) := by omega
          have hn0i : (0 : Int) < (n : Int) := by omega
          obtain ⟨c0, _⟩ := hO.cells (show 0 < n by omega)
          obtain ⟨c2, _⟩ := hO.cells hn1
          have cf := hO.free (1 * 2)
          simp only [Nat.zero_mul, Nat.one_mul] at c0 c2 cf
          obtain ⟨t0, t1, t2, t3, tf0, tf1, tf2, tf3⟩ := four hX
          have hgl := hO.1
          have hEl := hO.lt
          have qP := hO.ne_type hPv (by decide)
          have qX := hO.ne_type hX (by decide)
          have hO21 : OwnAt (w20.setCell ⟨gl, 2, none⟩ (.int .i64 (f 0).1)).drew _ gl n _ _ := hO.putId hn1 (f 0).1
          have hR22 : (w20.setCell ⟨gl, 2, none⟩ (.int .i64 (f 0).1)).drew.heap[w.heap.size]? = _ := (Below.heap_setCell w20 ⟨gl, 2, none⟩ (.int .i64 (f 0).1) w.heap.size (show w.heap.size ≠ gl by omega)).trans hR2
          have hR32 : (w20.setCell ⟨gl, 2, none⟩ (.int .i64 (f 0).1)).drew.heap[w.heap.size + 1]? = _ := (Below.heap_setCell w20 ⟨gl, 2, none⟩ (.int .i64 (f 0).1) (w.heap.size + 1) (show w.heap.size + 1 ≠ gl by omega)).trans hR3
          have hPv2 : (w20.setCell ⟨gl, 2, none⟩ (.int .i64 (f 0).1)).drew.heap[w2.heap.size]? = _ := (Below.heap_setCell w20 ⟨gl, 2, none⟩ (.int .i64 (f 0).1) w2.heap.size qP).trans hPv
          have hX2 : (w20.setCell ⟨gl, 2, none⟩ (.int .i64 (f 0).1)).drew.heap[w3.heap.size]? = _ := (Below.heap_setCell w20 ⟨gl, 2, none⟩ (.int .i64 (f 0).1) w3.heap.size qX).trans hX
          have hbb2 : Below w.heap.size w (w20.setCell ⟨gl, 2, none⟩ (.int .i64 (f 0).1)).drew := (hbb.setCell (p := ⟨gl, 2, none⟩) (by show w.heap.size ≤ gl; omega) (.int .i64 (f 0).1)).drew
          go_wp2_with fail
          go_region
          all_goals
            clear t0 t1 t2 t3 tf0 tf1 tf2 tf3 c0 c2 cf hR2 hR3 hPv hX hbb hO qP qX hEl
            generalize (w20.setCell ⟨gl, 2, none⟩ (.int .i64 (f 0).1)).drew = wq at hO21 hR22 hR32 hPv2 hX2 hbb2 ⊢
            have hR2 := hR22; have hR3 := hR32; have hPv := hPv2; have hX := hX2; have hbb := hbb2; have hO := hO21.own
            clear hR22 hR32 hPv2 hX2 hbb2 hO21
            have hO8 := (((((((hO.set (b := w.heap.size) (by omega) 0 (.int .i64 a)).set (b := w.heap.size) (by omega) 1 (.int .i64 b)).set (b := w.heap.size) (by omega) 2 (.int .i64 c)).set (b := w.heap.size + 1) (by omega) 0 (.slice (some ⟨gl, 0, none⟩) n vc)).set (b := w.heap.size + 1) (by omega) 1 (.int .i64 z)).set (b := w.heap.size + 1) (by omega) 2 (.int .i64 e)).set (b := w.heap.size + 1) (by omega) 3 (.int .i64 d))
            have hb8 := (((((((hbb.setCell (p := ⟨w.heap.size, 0, none⟩) (Nat.le_refl _) (.int .i64 a)).setCell (p := ⟨w.heap.size, 1, none⟩) (Nat.le_refl _) (.int .i64 b)).setCell (p := ⟨w.heap.size, 2, none⟩) (Nat.le_refl _) (.int .i64 c)).setCell (p := ⟨w.heap.size + 1, 0, none⟩) (Nat.le_succ _) (.slice (some ⟨gl, 0, none⟩) n vc)).setCell (p := ⟨w.heap.size + 1, 1, none⟩) (Nat.le_succ _) (.int .i64 z)).setCell (p := ⟨w.heap.size + 1, 2, none⟩) (Nat.le_succ _) (.int .i64 e)).setCell (p := ⟨w.heap.size + 1, 3, none⟩) (Nat.le_succ _) (.int .i64 d))
            obtain ⟨z0, z1, z2, zf0, zf1, zf2⟩ := three hR2
            obtain ⟨p0, p1, p2, pf0, pf1, pf2⟩ := three hPv
            obtain ⟨r0, r1, r2, r3, rf0, rf1, rf2, rf3⟩ := four hR3
            obtain ⟨t0, t1, t2, t3, tf0, tf1, tf2, tf3⟩ := four hX
            clear hR2 hR3 hPv hX
            go_wp2_with fail
            go_region
            all_goals
              go_wp2
              exact bodyPost_ret (v := .tuple #[.agg #[.int .i64 a, .int .i64 b, .int .i64 c], prV (.slice (some ⟨gl, 0, none⟩) n vc) z e d]) (by simp [results, Try.results11, go_sem, z0, z1, z2, r0, r1, r2, r3]) rfl ⟨_, _, _, _, n, _, _, _, _, rfl, (hO8.mono (show w.heap.size ≤ w.heap.size + 3 by omega)).drew, hn31, hb8.drew⟩
        · have hn1i : ¬ (1 : Int) < (n : Int) := by omega
          obtain ⟨t0, t1, t2, t3, tf0, tf1, tf2, tf3⟩ := four hX
          have hO8 := (((((((hO.set (b := w.heap.size) (by omega) 0 (.int .i64 a)).set (b := w.heap.size) (by omega) 1 (.int .i64 b)).set (b := w.heap.size) (by omega) 2 (.int .i64 c)).set (b := w.heap.size + 1) (by omega) 0 (.slice va n vc)).set (b := w.heap.size + 1) (by omega) 1 (.int .i64 z)).set (b := w.heap.size + 1) (by omega) 2 (.int .i64 e)).set (b := w.heap.size + 1) (by omega) 3 (.int .i64 d))
          have hb8 := (((((((hbb.setCell (p := ⟨w.heap.size, 0, none⟩) (Nat.le_refl _) (.int .i64 a)).setCell (p := ⟨w.heap.size, 1, none⟩) (Nat.le_refl _) (.int .i64 b)).setCell (p := ⟨w.heap.size, 2, none⟩) (Nat.le_refl _) (.int .i64 c)).setCell (p := ⟨w.heap.size + 1, 0, none⟩) (Nat.le_succ _) (.slice va n vc)).setCell (p := ⟨w.heap.size + 1, 1, none⟩) (Nat.le_succ _) (.int .i64 z)).setCell (p := ⟨w.heap.size + 1, 2, none⟩) (Nat.le_succ _) (.int .i64 e)).setCell (p := ⟨w.heap.size + 1, 3, none⟩) (Nat.le_succ _) (.int .i64 d))
          obtain ⟨z0, z1, z2, zf0, zf1, zf2⟩ := three hR2
          obtain ⟨p0, p1, p2, pf0, pf1, pf2⟩ := three hPv
          obtain ⟨r0, r1, r2, r3, rf0, rf1, rf2, rf3⟩ := four hR3
          clear hR2 hR3 hPv hX
          go_wp2_with fail
          go_region
          all_goals
            go_wp2
            exact bodyPost_ret (v := .tuple #[.agg #[.int .i64 a, .int .i64 b, .int .i64 c], prV (.slice va n vc) z e d]) (by simp [results, Try.results11, go_sem, z0, z1, z2, r0, r1, r2, r3]) rfl ⟨_, _, _, _, n, f, _, _, _, rfl, (hO8.mono (show w.heap.size ≤ w.heap.size + 3 by omega)).drew, hn31, hb8.drew⟩
    · go_wp2_with fail
      go_at_call 46; refine (l1Num_any 1000000000 (by omega) (by omega) hC6).mono ?_; rintro x w7 ⟨z, _, _, rfl, hC7, hg⟩
      replace hR2 := g_block hg hR2 (by omega); replace hR3 := g_block hg hR3 (by omega); replace hPv := g_block hg hPv (by omega); replace hX := g_block hg hX (by omega)
      replace hbb := hbb.trans (b_grown hg hgB hbb.size)
      replace hO := hO.kept hg (fun g' e => by injection e; omega)
      clear hg
      have hXq : (w7.setCell ⟨w3.heap.size, 2, none⟩ (.int .i64 z)).heap[w3.heap.size]? = some (.cells #[(.slice va n vc), .int .i64 l, .int .i64 z, .int .i64 d] 28) := block_setCell (i := 2) hX (.int .i64 z)
      have hR2q : (w7.setCell ⟨w3.heap.size, 2, none⟩ (.int .i64 z)).heap[w.heap.size]? = _ := (Below.heap_setCell w7 ⟨w3.heap.size, 2, none⟩ (.int .i64 z) w.heap.size (show w.heap.size ≠ w3.heap.size by omega)).trans hR2
      have hR3q : (w7.setCell ⟨w3.heap.size, 2, none⟩ (.int .i64 z)).heap[w.heap.size + 1]? = _ := (Below.heap_setCell w7 ⟨w3.heap.size, 2, none⟩ (.int .i64 z) (w.heap.size + 1) (show w.heap.size + 1 ≠ w3.heap.size by omega)).trans hR3
      have hPvq : (w7.setCell ⟨w3.heap.size, 2, none⟩ (.int .i64 z)).heap[w2.heap.size]? = _ := (Below.heap_setCell w7 ⟨w3.heap.size, 2, none⟩ (.int .i64 z) w2.heap.size (show w2.heap.size ≠ w3.heap.size by omega)).trans hPv
      have hbbq : Below w.heap.size w (w7.setCell ⟨w3.heap.size, 2, none⟩ (.int .i64 z)) := hbb.setCell (p := ⟨w3.heap.size, 2, none⟩) (by show w.heap.size ≤ w3.heap.size; omega) (.int .i64 z)
      have hOq : OwnRow (w7.setCell ⟨w3.heap.size, 2, none⟩ (.int .i64 z)) _ _ _ _ := hO.setNe hXN 2 (.int .i64 z)
      have hCq := hC7.set (b := w3.heap.size) (by omega) (by omega) 2 (.int .i64 z)
      obtain ⟨t0, t1, t2, t3, tf0, tf1, tf2, tf3⟩ := four hX
      go_wp2_with fail
      clear t0 t1 t2 t3 tf0 tf1 tf2 tf3 hR2 hR3 hPv hX hbb hO hC7
      generalize (w7.setCell ⟨w3.heap.size, 2, none⟩ (.int .i64 z)) = wr at hXq hR2q hR3q hPvq hbbq hOq hCq ⊢
      have hR2 := hR2q; have hR3 := hR3q; have hPv := hPvq; have hX := hXq; have hbb := hbbq; have hO := hOq; have hC := hCq
      clear hXq hR2q hR3q hPvq hbbq hOq hCq
      go_at_call 42; refine (l1Once_any 6 (by omega) (by omega) hC).mono ?_; rintro x w20 ⟨q6, rfl, hC20, hg⟩
      replace hR2 := g_block hg hR2 (by omega); replace hR3 := g_block hg hR3 (by omega); replace hPv := g_block hg hPv (by omega); replace hX := g_block hg hX (by omega)
      replace hbb := hbb.trans (b_grown hg hgB hbb.size)
      replace hO := hO.kept hg (fun g' e => by injection e; omega)
      clear hg
      cases q6
      · have hO8 := (((((((hO.set (b := w.heap.size) (by omega) 0 (.int .i64 a)).set (b := w.heap.size) (by omega) 1 (.int .i64 b)).set (b := w.heap.size) (by omega) 2 (.int .i64 c)).set (b := w.heap.size + 1) (by omega) 0 (.slice va n vc)).set (b := w.heap.size + 1) (by omega) 1 (.int .i64 l)).set (b := w.heap.size + 1) (by omega) 2 (.int .i64 z)).set (b := w.heap.size + 1) (by omega) 3 (.int .i64 d))
        have hb8 := (((((((hbb.setCell (p := ⟨w.heap.size, 0, none⟩) (Nat.le_refl _) (.int .i64 a)).setCell (p := ⟨w.heap.size, 1, none⟩) (Nat.le_refl _) (.int .i64 b)).setCell (p := ⟨w.heap.size, 2, none⟩) (Nat.le_refl _) (.int .i64 c)).setCell (p := ⟨w.heap.size + 1, 0, none⟩) (Nat.le_succ _) (.slice va n vc)).setCell (p := ⟨w.heap.size + 1, 1, none⟩) (Nat.le_succ _) (.int .i64 l)).setCell (p := ⟨w.heap.size + 1, 2, none⟩) (Nat.le_succ _) (.int .i64 z)).setCell (p := ⟨w.heap.size + 1, 3, none⟩) (Nat.le_succ _) (.int .i64 d))
        obtain ⟨z0, z1, z2, zf0, zf1, zf2⟩ := three hR2
        obtain ⟨p0, p1, p2, pf0, pf1, pf2⟩ := three hPv
        obtain ⟨r0, r1, r2, r3, rf0, rf1, rf2, rf3⟩ := four hR3
        obtain ⟨t0, t1, t2, t3, tf0, tf1, tf2, tf3⟩ := four hX
        clear hR2 hR3 hPv hX
        go_wp2_with fail
        go_region
        all_goals
          go_wp2
          exact bodyPost_ret (v := .tuple #[.agg #[.int .i64 a, .int .i64 b, .int .i64 c], prV (.slice va n vc) l z d]) (by simp [results, Try.results11, go_sem, z0, z1, z2, r0, r1, r2, r3]) rfl ⟨_, _, _, _, n, f, _, _, _, rfl, (hO8.mono (show w.heap.size ≤ w.heap.size + 3 by omega)).drew, hn31, hb8.drew⟩
      · by_cases hn1 : 1 < n
        · rcases hO with ⟨h0, _⟩ | ⟨gl, cap, ev, hO⟩
          · omega
          injection ev with ev1 ev2 ev3
          subst ev1 ev3
          have hn1i : (1 : Int) < (n : Int) := by omega
          have hn0i : (0 : Int) < (n : Int) := by omega
          obtain ⟨c0, _⟩ := hO.cells (show 0 < n by omega)
          obtain ⟨c2, _⟩ := hO.cells hn1
          have cf := hO.free (1 * 2)
          simp only [Nat.zero_mul, Nat.one_mul] at c0 c2 cf
          obtain ⟨t0, t1, t2, t3, tf0, tf1, tf2, tf3⟩ := four hX
          have hgl := hO.1
          have hEl := hO.lt
          have qP := hO.ne_type hPv (by decide)
          have qX := hO.ne_type hX (by decide)
          have hO21 : OwnAt (w20.setCell ⟨gl, 2, none⟩ (.int .i64 (f 0).1)).drew _ gl n _ _ := hO.putId hn1 (f 0).1
          have hR22 : (w20.setCell ⟨gl, 2, none⟩ (.int .i64 (f 0).1)).drew.heap[w.heap.size]? = _ := (Below.heap_setCell w20 ⟨gl, 2, none⟩ (.int .i64 (f 0).1) w.heap.size (show w.heap.size ≠ gl by omega)).trans hR2
          have hR32 : (w20.setCell ⟨gl, 2, none⟩ (.int .i64 (f 0).1)).drew.heap[w.heap.size + 1]? = _ := (Below.heap_setCell w20 ⟨gl, 2, none⟩ (.int .i64 (f 0).1) (w.heap.size + 1) (show w.heap.size + 1 ≠ gl by omega)).trans hR3
          have hPv2 : (w20.setCell ⟨gl, 2, none⟩ (.int .i64 (f 0).1)).drew.heap[w2.heap.size]? = _ := (Below.heap_setCell w20 ⟨gl, 2, none⟩ (.int .i64 (f 0).1) w2.heap.size qP).trans hPv
          have hX2 : (w20.setCell ⟨gl, 2, none⟩ (.int .i64 (f 0).1)).drew.heap[w3.heap.size]? = _ := (Below.heap_setCell w20 ⟨gl, 2, none⟩ (.int .i64 (f 0).1) w3.heap.size qX).trans hX
          have hbb2 : Below w.heap.size w (w20.setCell ⟨gl, 2, none⟩ (.int .i64 (f 0).1)).drew := (hbb.setCell (p := ⟨gl, 2, none⟩) (by show w.heap.size ≤ gl; omega) (.int .i64 (f 0).1)).drew
          go_wp2_with fail
          go_region
          all_goals
            clear t0 t1 t2 t3 tf0 tf1 tf2 tf3 c0 c2 cf hR2 hR3 hPv hX hbb hO qP qX hEl
            generalize (w20.setCell ⟨gl, 2, none⟩ (.int .i64 (f 0).1)).drew = wq at hO21 hR22 hR32 hPv2 hX2 hbb2 ⊢
            have hR2 := hR22; have hR3 := hR32; have hPv := hPv2; have hX := hX2; have hbb := hbb2; have hO := hO21.own
            clear hR22 hR32 hPv2 hX2 hbb2 hO21
            have hO8 := (((((((hO.set (b := w.heap.size) (by omega) 0 (.int .i64 a)).set (b := w.heap.size) (by omega) 1 (.int .i64 b)).set (b := w.heap.size) (by omega) 2 (.int .i64 c)).set (b := w.heap.size + 1) (by omega) 0 (.slice (some ⟨gl, 0, none⟩) n vc)).set (b := w.heap.size + 1) (by omega) 1 (.int .i64 l)).set (b := w.heap.size + 1) (by omega) 2 (.int .i64 z)).set (b := w.heap.size + 1) (by omega) 3 (.int .i64 d))
            have hb8 := (((((((hbb.setCell (p := ⟨w.heap.size, 0, none⟩) (Nat.le_refl _) (.int .i64 a)).setCell (p := ⟨w.heap.size, 1, none⟩) (Nat.le_refl _) (.int .i64 b)).setCell (p := ⟨w.heap.size, 2, none⟩) (Nat.le_refl _) (.int .i64 c)).setCell (p := ⟨w.heap.size + 1, 0, none⟩) (Nat.le_succ _) (.slice (some ⟨gl, 0, none⟩) n vc)).setCell (p := ⟨w.heap.size + 1, 1, none⟩) (Nat.le_succ _) (.int .i64 l)).setCell (p := ⟨w.heap.size + 1, 2, none⟩) (Nat.le_succ _) (.int .i64 z)).setCell (p := ⟨w.heap.size + 1, 3, none⟩) (Nat.le_succ _) (.int .i64 d))
            obtain ⟨z0, z1, z2, zf0, zf1, zf2⟩ := three hR2
            obtain ⟨p0, p1, p2, pf0, pf1, pf2⟩ := three hPv
            obtain ⟨r0, r1, r2, r3, rf0, rf1, rf2, rf3⟩ := four hR3
            obtain ⟨t0, t1, t2, t3, tf0, tf1, tf2, tf3⟩ := four hX
            clear hR2 hR3 hPv hX
            go_wp2_with fail
            go_region
            all_goals
              go_wp2
              exact bodyPost_ret (v := .tuple #[.agg #[.int .i64 a, .int .i64 b, .int .i64 c], prV (.slice (some ⟨gl, 0, none⟩) n vc) l z d]) (by simp [results, Try.results11, go_sem, z0, z1, z2, r0, r1, r2, r3]) rfl ⟨_, _, _, _, n, _, _, _, _, rfl, (hO8.mono (show w.heap.size ≤ w.heap.size + 3 by omega)).drew, hn31, hb8.drew⟩
        · have hn1i : ¬ (1 : Int) < (n : Int) := by omega
          obtain ⟨t0, t1, t2, t3, tf0, tf1, tf2, tf3⟩ := four hX
          have hO8 := (((((((hO.set (b := w.heap.size) (by omega) 0 (.int .i64 a)).set (b := w.heap.size) (by omega) 1 (.int .i64 b)).set (b := w.heap.size) (by omega) 2 (.int .i64 c)).set (b := w.heap.size + 1) (by omega) 0 (.slice va n vc)).set (b := w.heap.size + 1) (by omega) 1 (.int .i64 l)).set (b := w.heap.size + 1) (by omega) 2 (.int .i64 z)).set (b := w.heap.size + 1) (by omega) 3 (.int .i64 d))
          have hb8 := (((((((hbb.setCell (p := ⟨w.heap.size, 0, none⟩) (Nat.le_refl _) (.int .i64 a)).setCell (p := ⟨w.heap.size, 1, none⟩) (Nat.le_refl _) (.int .i64 b)).setCell (p := ⟨w.heap.size, 2, none⟩) (Nat.le_refl _) (.int .i64 c)).setCell (p := ⟨w.heap.size + 1, 0, none⟩) (Nat.le_succ _) (.slice va n vc)).setCell (p := ⟨w.heap.size + 1, 1, none⟩) (Nat.le_succ _) (.int .i64 l)).setCell (p := ⟨w.heap.size + 1, 2, none⟩) (Nat.le_succ _) (.int .i64 z)).setCell (p := ⟨w.heap.size + 1, 3, none⟩) (Nat.le_succ _) (.int .i64 d))
          obtain ⟨z0, z1, z2, zf0, zf1, zf2⟩ := three hR2
          obtain ⟨p0, p1, p2, pf0, pf1, pf2⟩ := three hPv
          obtain ⟨r0, r1, r2, r3, rf0, rf1, rf2, rf3⟩ := four hR3
          clear hR2 hR3 hPv hX
          go_wp2_with fail
          go_region
          all_goals
            go_wp2
            exact bodyPost_ret (v := .tuple #[.agg #[.int .i64 a, .int .i64 b, .int .i64 c], prV (.slice va n vc) l z d]) (by simp [results, Try.results11, go_sem, z0, z1, z2, r0, r1, r2, r3]) rfl ⟨_, _, _, _, n, f, _, _, _, rfl, (hO8.mono (show w.heap.size ≤ w.heap.size + 3 by omega)).drew, hn31, hb8.drew⟩
    · go_wp2_with fail
      go_at_call 45; refine (l1From_any (-1) 14 (by omega) (by omega) (by omega) hC6).mono ?_; rintro x w7 ⟨z, _, _, rfl, hC7, hg⟩
      replace hR2 := g_block hg hR2 (by omega); replace hR3 := g_block hg hR3 (by omega); replace hPv := g_block hg hPv (by omega); replace hX := g_block hg hX (by omega)
      replace hbb := hbb.trans (b_grown hg hgB hbb.size)
      replace hO := hO.kept hg (fun g' e => by injection e; omega)
      clear hg
      have hXq : (w7.setCell ⟨w3.heap.size, 3, none⟩ (.int .i64 z)).heap[w3.heap.size]? = some (.cells #[(.slice va n vc), .int .i64 l, .int .i64 e, .int .i64 z] 28) := block_setCell (i := 3) hX (.int .i64 z)
      have hR2q : (w7.setCell ⟨w3.heap.size, 3, none⟩ (.int .i64 z)).heap[w.heap.size]? = _ := (Below.heap_setCell w7 ⟨w3.heap.size, 3, none⟩ (.int .i64 z) w.heap.size (show w.heap.size ≠ w3.heap.size by omega)).trans hR2
      have hR3q : (w7.setCell ⟨w3.heap.size, 3, none⟩ (.int .i64 z)).heap[w.heap.size + 1]? = _ := (Below.heap_setCell w7 ⟨w3.heap.size, 3, none⟩ (.int .i64 z) (w.heap.size + 1) (show w.heap.size + 1 ≠ w3.heap.size by omega)).trans hR3
      have hPvq : (w7.setCell ⟨w3.heap.size, 3, none⟩ (.int .i64 z)).heap[w2.heap.size]? = _ := (Below.heap_setCell w7 ⟨w3.heap.size, 3, none⟩ (.int .i64 z) w2.heap.size (show w2.heap.size ≠ w3.heap.size by omega)).trans hPv
      have hbbq : Below w.heap.size w (w7.setCell ⟨w3.heap.size, 3, none⟩ (.int .i64 z)) := hbb.setCell (p := ⟨w3.heap.size, 3, none⟩) (by show w.heap.size ≤ w3.heap.size; omega) (.int .i64 z)
      have hOq : OwnRow (w7.setCell ⟨w3.heap.size, 3, none⟩ (.int .i64 z)) _ _ _ _ := hO.setNe hXN 3 (.int .i64 z)
      have hCq := hC7.set (b := w3.heap.size) (by omega) (by omega) 3 (.int .i64 z)
      obtain ⟨t0, t1, t2, t3, tf0, tf1, tf2, tf3⟩ := four hX
      go_wp2_with fail
      clear t0 t1 t2 t3 tf0 tf1 tf2 tf3 hR2 hR3 hPv hX hbb hO hC7
      generalize (w7.setCell ⟨w3.heap.size, 3, none⟩ (.int .i64 z)) = wr at hXq hR2q hR3q hPvq hbbq hOq hCq ⊢
      have hR2 := hR2q; have hR3 := hR3q; have hPv := hPvq; have hX := hXq; have hbb := hbbq; have hO := hOq; have hC := hCq
      clear hXq hR2q hR3q hPvq hbbq hOq hCq
      go_at_call 42; refine (l1Once_any 6 (by omega) (by omega) hC).mono ?_; rintro x w20 ⟨q6, rfl, hC20, hg⟩
      replace hR2 := g_block hg hR2 (by omega); replace hR3 := g_block hg hR3 (by omega); replace hPv := g_block hg hPv (by omega); replace hX := g_block hg hX (by omega)
      replace hbb := hbb.trans (b_grown hg hgB hbb.size)
      replace hO := hO.kept hg (fun g' e => by injection e; omega)
      clear hg
      cases q6
      · have hO8 := (((((((hO.set (b := w.heap.size) (by omega) 0 (.int .i64 a)).set (b := w.heap.size) (by omega) 1 (.int .i64 b)).set (b := w.heap.size) (by omega) 2 (.int .i64 c)).set (b := w.heap.size + 1) (by omega) 0 (.slice va n vc)).set (b := w.heap.size + 1) (by omega) 1 (.int .i64 l)).set (b := w.heap.size + 1) (by omega) 2 (.int .i64 e)).set (b := w.heap.size + 1) (by omega) 3 (.int .i64 z))
        have hb8 := (((((((hbb.setCell (p := ⟨w.heap.size, 0, none⟩) (Nat.le_refl _) (.int .i64 a)).setCell (p := ⟨w.heap.size, 1, none⟩) (Nat.le_refl _) (.int .i64 b)).setCell (p := ⟨w.heap.size, 2, none⟩) (Nat.le_refl _) (.int .i64 c)).setCell (p := ⟨w.heap.size + 1, 0, none⟩) (Nat.le_succ _) (.slice va n vc)).setCell (p := ⟨w.heap.size + 1, 1, none⟩) (Nat.le_succ _) (.int .i64 l)).setCell (p := ⟨w.heap.size + 1, 2, none⟩) (Nat.le_succ _) (.int .i64 e)).setCell (p := ⟨w.heap.size + 1, 3, none⟩) (Nat.le_succ _) (.int .i64 z))
        obtain ⟨z0, z1, z2, zf0, zf1, zf2⟩ := three hR2
        obtain ⟨p0, p1, p2, pf0, pf1, pf2⟩ := three hPv
        obtain ⟨r0, r1, r2, r3, rf0, rf1, rf2, rf3⟩ := four hR3
        obtain ⟨t0, t1, t2, t3, tf0, tf1, tf2, tf3⟩ := four hX
        clear hR2 hR3 hPv hX
        go_wp2_with fail
        go_region
        all_goals
          go_wp2
          exact bodyPost_ret (v := .tuple #[.agg #[.int .i64 a, .int .i64 b, .int .i64 c], prV (.slice va n vc) l e z]) (by simp [results, Try.results11, go_sem, z0, z1, z2, r0, r1, r2, r3]) rfl ⟨_, _, _, _, n, f, _, _, _, rfl, (hO8.mono (show w.heap.size ≤ w.heap.size + 3 by omega)).drew, hn31, hb8.drew⟩
      · by_cases hn1 : 1 < n
        · rcases hO with ⟨h0, _⟩ | ⟨gl, cap, ev, hO⟩
          · omega
          injection ev with ev1 ev2 ev3
          subst ev1 ev3
          have hn1i : (1 : Int) < (n : Int) := by omega
          have hn0i : (0 : Int) < (n : Int) := by omega
          obtain ⟨c0, _⟩ := hO.cells (show 0 < n by omega)
          obtain ⟨c2, _⟩ := hO.cells hn1
          have cf := hO.free (1 * 2)
          simp only [Nat.zero_mul, Nat.one_mul] at c0 c2 cf
          obtain ⟨t0, t1, t2, t3, tf0, tf1, tf2, tf3⟩ := four hX
          have hgl := hO.1
          have hEl := hO.lt
          have qP := hO.ne_type hPv (by decide)
          have qX := hO.ne_type hX (by decide)
          have hO21 : OwnAt (w20.setCell ⟨gl, 2, none⟩ (.int .i64 (f 0).1)).drew _ gl n _ _ := hO.putId hn1 (f 0).1
          have hR22 : (w20.setCell ⟨gl, 2, none⟩ (.int .i64 (f 0).1)).drew.heap[w.heap.size]? = _ := (Below.heap_setCell w20 ⟨gl, 2, none⟩ (.int .i64 (f 0).1) w.heap.size (show w.heap.size ≠ gl by omega)).trans hR2
          have hR32 : (w20.setCell ⟨gl, 2, none⟩ (.int .i64 (f 0).1)).drew.heap[w.heap.size + 1]? = _ := (Below.heap_setCell w20 ⟨gl, 2, none⟩ (.int .i64 (f 0).1) (w.heap.size + 1) (show w.heap.size + 1 ≠ gl by omega)).trans hR3
          have hPv2 : (w20.setCell ⟨gl, 2, none⟩ (.int .i64 (f 0).1)).drew.heap[w2.heap.size]? = _ := (Below.heap_setCell w20 ⟨gl, 2, none⟩ (.int .i64 (f 0).1) w2.heap.size qP).trans hPv
          have hX2 : (w20.setCell ⟨gl, 2, none⟩ (.int .i64 (f 0).1)).drew.heap[w3.heap.size]? = _ := (Below.heap_setCell w20 ⟨gl, 2, none⟩ (.int .i64 (f 0).1) w3.heap.size qX).trans hX
          have hbb2 : Below w.heap.size w (w20.setCell ⟨gl, 2, none⟩ (.int .i64 (f 0).1)).drew := (hbb.setCell (p := ⟨gl, 2, none⟩) (by show w.heap.size ≤ gl; omega) (.int .i64 (f 0).1)).drew
          go_wp2_with fail
          go_region
          all_goals
            clear t0 t1 t2 t3 tf0 tf1 tf2 tf3 c0 c2 cf hR2 hR3 hPv hX hbb hO qP qX hEl
            generalize (w20.setCell ⟨gl, 2, none⟩ (.int .i64 (f 0).1)).drew = wq at hO21 hR22 hR32 hPv2 hX2 hbb2 ⊢
            have hR2 := hR22; have hR3 := hR32; have hPv := hPv2; have hX := hX2; have hbb := hbb2; have hO := hO21.own
            clear hR22 hR32 hPv2 hX2 hbb2 hO21
            have hO8 := (((((((hO.set (b := w.heap.size) (by omega) 0 (.int .i64 a)).set (b := w.heap.size) (by omega) 1 (.int .i64 b)).set (b := w.heap.size) (by omega) 2 (.int .i64 c)).set (b := w.heap.size + 1) (by omega) 0 (.slice (some ⟨gl, 0, none⟩) n vc)).set (b := w.heap.size + 1) (by omega) 1 (.int .i64 l)).set (b := w.heap.size + 1) (by omega) 2 (.int .i64 e)).set (b := w.heap.size + 1) (by omega) 3 (.int .i64 z))
            have hb8 := (((((((hbb.setCell (p := ⟨w.heap.size, 0, none⟩) (Nat.le_refl _) (.int .i64 a)).setCell (p := ⟨w.heap.size, 1, none⟩) (Nat.le_refl _) (.int .i64 b)).setCell (p := ⟨w.heap.size, 2, none⟩) (Nat.le_refl _) (.int .i64 c)).setCell (p := ⟨w.heap.size + 1, 0, none⟩) (Nat.le_succ _) (.slice (some ⟨gl, 0, none⟩) n vc)).setCell (p := ⟨w.heap.size + 1, 1, none⟩) (Nat.le_succ _) (.int .i64 l)).setCell (p := ⟨w.heap.size + 1, 2, none⟩) (Nat.le_succ _) (.int .i64 e)).setCell (p := ⟨w.heap.size + 1, 3, none⟩) (Nat.le_succ _) (.int .i64 z))
            obtain ⟨z0, z1, z2, zf0, zf1, zf2⟩ := three hR2
            obtain ⟨p0, p1, p2, pf0, pf1, pf2⟩ := three hPv
            obtain ⟨r0, r1, r2, r3, rf0, rf1, rf2, rf3⟩ := four hR3
            obtain ⟨t0, t1, t2, t3, tf0, tf1, tf2, tf3⟩ := four hX
            clear hR2 hR3 hPv hX
            go_wp2_with fail
            go_region
            all_goals
              go_wp2
              exact bodyPost_ret (v := .tuple #[.agg #[.int .i64 a, .int .i64 b, .int .i64 c], prV (.slice (some ⟨gl, 0, none⟩) n vc) l e z]) (by simp [results, Try.results11, go_sem, z0, z1, z2, r0, r1, r2, r3]) rfl ⟨_, _, _, _, n, _, _, _, _, rfl, (hO8.mono (show w.heap.size ≤ w.heap.size + 3 by omega)).drew, hn31, hb8.drew⟩
        · have hn1i : ¬ (1 : Int) < (n : Int) := by omega
          obtain ⟨t0, t1, t2, t3, tf0, tf1, tf2, tf3⟩ := four hX
          have hO8 := (((((((hO.set (b := w.heap.size) (by omega) 0 (.int .i64 a)).set (b := w.heap.size) (by omega) 1 (.int .i64 b)).set (b := w.heap.size) (by omega) 2 (.int .i64 c)).set (b := w.heap.size + 1) (by omega) 0 (.slice va n vc)).set (b := w.heap.size + 1) (by omega) 1 (.int .i64 l)).set (b := w.heap.size + 1) (by omega) 2 (.int .i64 e)).set (b := w.heap.size + 1) (by omega) 3 (.int .i64 z))
          have hb8 := (((((((hbb.setCell (p := ⟨w.heap.size, 0, none⟩) (Nat.le_refl _) (.int .i64 a)).setCell (p := ⟨w.heap.size, 1, none⟩) (Nat.le_refl _) (.int .i64 b)).setCell (p := ⟨w.heap.size, 2, none⟩) (Nat.le_refl _) (.int .i64 c)).setCell (p := ⟨w.heap.size + 1, 0, none⟩) (Nat.le_succ _) (.slice va n vc)).setCell (p := ⟨w.heap.size + 1, 1, none⟩) (Nat.le_succ _) (.int .i64 l)).setCell (p := ⟨w.heap.size + 1, 2, none⟩) (Nat.le_succ _) (.int .i64 e)).setCell (p := ⟨w.heap.size + 1, 3, none⟩) (Nat.le_succ _) (.int .i64 z))
          obtain ⟨z0, z1, z2, zf0, zf1, zf2⟩ := three hR2
          obtain ⟨p0, p1, p2, pf0, pf1, pf2⟩ := three hPv
          obtain ⟨r0, r1, r2, r3, rf0, rf1, rf2, rf3⟩ := four hR3
          clear hR2 hR3 hPv hX
          go_wp2_with fail
          go_region
          all_goals
            go_wp2
            exact bodyPost_ret (v := .tuple #[.agg #[.int .i64 a, .int .i64 b, .int .i64 c], prV (.slice va n vc) l e z]) (by simp [results, Try.results11, go_sem, z0, z1, z2, r0, r1, r2, r3]) rfl ⟨_, _, _, _, n, f, _, _, _, rfl, (hO8.mono (show w.heap.size ≤ w.heap.size + 3 by omega)).drew, hn31, hb8.drew⟩
    · go_wp2_with fail
      go_at_call 47; refine (l1DrawAny_any hC6).mono ?_; rintro x w7 ⟨a', b', c', _, rfl, hC7, hg⟩
      replace hR2 := g_block hg hR2 (by omega); replace hR3 := g_block hg hR3 (by omega); replace hPv := g_block hg hPv (by omega); replace hX := g_block hg hX (by omega)
      replace hbb := hbb.trans (b_grown hg hgB hbb.size)
      replace hO := hO.kept hg (fun g' e => by injection e; omega)
      clear hg
      have hPvq : (((w7.setCell ⟨w2.heap.size, 0, none⟩ (.int .i64 a')).setCell ⟨w2.heap.size, 1, none⟩ (.int .i64 b')).setCell ⟨w2.heap.size, 2, none⟩ (.int .i64 c')).heap[w2.heap.size]? = _ := pack3 hPv (.int .i64 a') (.int .i64 b') (.int .i64 c')
      have hR2q : (((w7.setCell ⟨w2.heap.size, 0, none⟩ (.int .i64 a')).setCell ⟨w2.heap.size, 1, none⟩ (.int .i64 b')).setCell ⟨w2.heap.size, 2, none⟩ (.int .i64 c')).heap[w.heap.size]? = _ := (far3b w7 w2.heap.size (.int .i64 a') (.int .i64 b') (.int .i64 c') (p := w.heap.size) (by omega)).trans hR2
      have hR3q : (((w7.setCell ⟨w2.heap.size, 0, none⟩ (.int .i64 a')).setCell ⟨w2.heap.size, 1, none⟩ (.int .i64 b')).setCell ⟨w2.heap.size, 2, none⟩ (.int .i64 c')).heap[w.heap.size + 1]? = _ := (far3b w7 w2.heap.size (.int .i64 a') (.int .i64 b') (.int .i64 c') (p := w.heap.size + 1) (by omega)).trans hR3
      have hXq : (((w7.setCell ⟨w2.heap.size, 0, none⟩ (.int .i64 a')).setCell ⟨w2.heap.size, 1, none⟩ (.int .i64 b')).setCell ⟨w2.heap.size, 2, none⟩ (.int .i64 c')).heap[w3.heap.size]? = _ := (far3b w7 w2.heap.size (.int .i64 a') (.int .i64 b') (.int .i64 c') (p := w3.heap.size) (by omega)).trans hX
      have hbbq : Below w.heap.size w (((w7.setCell ⟨w2.heap.size, 0, none⟩ (.int .i64 a')).setCell ⟨w2.heap.size, 1, none⟩ (.int .i64 b')).setCell ⟨w2.heap.size, 2, none⟩ (.int .i64 c')) := b_set3 (E := w2.heap.size) hbb (by omega) (.int .i64 a') (.int .i64 b') (.int .i64 c')
      have hOq : OwnRow (((w7.setCell ⟨w2.heap.size, 0, none⟩ (.int .i64 a')).setCell ⟨w2.heap.size, 1, none⟩ (.int .i64 b')).setCell ⟨w2.heap.size, 2, none⟩ (.int .i64 c')) _ _ _ _ := o_set3 hO hPN (.int .i64 a') (.int .i64 b') (.int .i64 c')
      have hCq : CurAt (((w7.setCell ⟨w2.heap.size, 0, none⟩ (.int .i64 a')).setCell ⟨w2.heap.size, 1, none⟩ (.int .i64 b')).setCell ⟨w2.heap.size, 2, none⟩ (.int .i64 c')) _ _ _ _ := cur_set3 (E := w2.heap.size) hC7 (by omega) (by omega) (.int .i64 a') (.int .i64 b') (.int .i64 c')
      obtain ⟨p0, p1, p2, pf0, pf1, pf2⟩ := three hPv
      go_wp2_with fail
      clear p0 p1 p2 pf0 pf1 pf2 hR2 hR3 hPv hX hbb hO hC7
      generalize (((w7.setCell ⟨w2.heap.size, 0, none⟩ (.int .i64 a')).setCell ⟨w2.heap.size, 1, none⟩ (.int .i64 b')).setCell ⟨w2.heap.size, 2, none⟩ (.int .i64 c')) = wr at hXq hR2q hR3q hPvq hbbq hOq hCq ⊢
      have hR2 := hR2q; have hR3 := hR3q; have hPv := hPvq; have hX := hXq; have hbb := hbbq; have hO := hOq; have hC := hCq
      clear hXq hR2q hR3q hPvq hbbq hOq hCq
      go_at_call 42; refine (l1Once_any 6 (by omega) (by omega) hC).mono ?_; rintro x w20 ⟨q6, rfl, hC20, hg⟩
      replace hR2 := g_block hg hR2 (by omega); replace hR3 := g_block hg hR3 (by omega); replace hPv := g_block hg hPv (by omega); replace hX := g_block hg hX (by omega)
      replace hbb := hbb.trans (b_grown hg hgB hbb.size)
      replace hO := hO.kept hg (fun g' e => by injection e; omega)
      clear hg
      cases q6
      · have hO8 := (((((((hO.set (b := w.heap.size) (by omega) 0 (.int .i64 a')).set (b := w.heap.size) (by omega) 1 (.int .i64 b')).set (b := w.heap.size) (by omega) 2 (.int .i64 c')).set (b := w.heap.size + 1) (by omega) 0 (.slice va n vc)).set (b := w.heap.size + 1) (by omega) 1 (.int .i64 l)).set (b := w.heap.size + 1) (by omega) 2 (.int .i64 e)).set (b := w.heap.size + 1) (by omega) 3 (.int .i64 d))
        have hb8 := (((((((hbb.setCell (p := ⟨w.heap.size, 0, none⟩) (Nat.le_refl _) (.int .i64 a')).setCell (p := ⟨w.heap.size, 1, none⟩) (Nat.le_refl _) (.int .i64 b')).setCell (p := ⟨w.heap.size, 2, none⟩) (Nat.le_refl _) (.int .i64 c')).setCell (p := ⟨w.heap.size + 1, 0, none⟩) (Nat.le_succ _) (.slice va n vc)).setCell (p := ⟨w.heap.size + 1, 1, none⟩) (Nat.le_succ _) (.int .i64 l)).setCell (p := ⟨w.heap.size + 1, 2, none⟩) (Nat.le_succ _) (.int .i64 e)).setCell (p := ⟨w.heap.size + 1, 3, none⟩) (Nat.le_succ _) (.int .i64 d))
        obtain ⟨z0, z1, z2, zf0, zf1, zf2⟩ := three hR2
        obtain ⟨p0, p1, p2, pf0, pf1, pf2⟩ := three hPv
        obtain ⟨r0, r1, r2, r3, rf0, rf1, rf2, rf3⟩ := four hR3
        obtain ⟨t0, t1, t2, t3, tf0, tf1, tf2, tf3⟩ := four hX
        clear hR2 hR3 hPv hX
        go_wp2_with fail
        go_region
        all_goals
          go_wp2
          exact bodyPost_ret (v := .tuple #[.agg #[.int .i64 a', .int .i64 b', .int .i64 c'], prV (.slice va n vc) l e d]) (by simp [results, Try.results11, go_sem, z0, z1, z2, r0, r1, r2, r3]) rfl ⟨_, _, _, _, n, f, _, _, _, rfl, (hO8.mono (show w.heap.size ≤ w.heap.size + 3 by omega)).drew, hn31, hb8.drew⟩
      · by_cases hn1 : 1 < n
        · rcases hO with ⟨h0, _⟩ | ⟨gl, cap, ev, hO⟩
          · omega
          injection ev with ev1 ev2 ev3
          subst ev1 ev3
          have hn1i : (1 : Int) < (n : Int) := by omega
          have hn0i : (0 : Int) < (n : Int) := by omega
          obtain ⟨c0, _⟩ := hO.cells (show 0 < n by omega)
          obtain ⟨c2, _⟩ := hO.cells hn1
          have cf := hO.free (1 * 2)
          simp only [Nat.zero_mul, Nat.one_mul] at c0 c2 cf
          obtain ⟨t0, t1, t2, t3, tf0, tf1, tf2, tf3⟩ := four hX
          have hgl := hO.1
          have hEl := hO.lt
          have qP := hO.ne_type hPv (by decide)
          have qX := hO.ne_type hX (by decide)
          have hO21 : OwnAt (w20.setCell ⟨gl, 2, none⟩ (.int .i64 (f 0).1)).drew _ gl n _ _ := hO.putId hn1 (f 0).1
          have hR22 : (w20.setCell ⟨gl, 2, none⟩ (.int .i64 (f 0).1)).drew.heap[w.heap.size]? = _ := (Below.heap_setCell w20 ⟨gl, 2, none⟩ (.int .i64 (f 0).1) w.heap.size (show w.heap.size ≠ gl by omega)).trans hR2
          have hR32 : (w20.setCell ⟨gl, 2, none⟩ (.int .i64 (f 0).1)).drew.heap[w.heap.size + 1]? = _ := (Below.heap_setCell w20 ⟨gl, 2, none⟩ (.int .i64 (f 0).1) (w.heap.size + 1) (show w.heap.size + 1 ≠ gl by omega)).trans hR3
          have hPv2 : (w20.setCell ⟨gl, 2, none⟩ (.int .i64 (f 0).1)).drew.heap[w2.heap.size]? = _ := (Below.heap_setCell w20 ⟨gl, 2, none⟩ (.int .i64 (f 0).1) w2.heap.size qP).trans hPv
          have hX2 : (w20.setCell ⟨gl, 2, none⟩ (.int .i64 (f 0).1)).drew.heap[w3.heap.size]? = _ := (Below.heap_setCell w20 ⟨gl, 2, none⟩ (.int .i64 (f 0).1) w3.heap.size qX).trans hX
          have hbb2 : Below w.heap.size w (w20.setCell ⟨gl, 2, none⟩ (.int .i64 (f 0).1)).drew := (hbb.setCell (p := ⟨gl, 2, none⟩) (by show w.heap.size ≤ gl; omega) (.int .i64 (f 0).1)).drew
          go_wp2_with fail
          go_region
          all_goals
            clear t0 t1 t2 t3 tf0 tf1 tf2 tf3 c0 c2 cf hR2 hR3 hPv hX hbb hO qP qX hEl
            generalize (w20.setCell ⟨gl, 2, none⟩ (.int .i64 (f 0).1)).drew = wq at hO21 hR22 hR32 hPv2 hX2 hbb2 ⊢
            have hR2 := hR22; have hR3 := hR32; have hPv := hPv2; have hX := hX2; have hbb := hbb2; have hO := hO21.own
            clear hR22 hR32 hPv2 hX2 hbb2 hO21
            have hO8 := (((((((hO.set (b := w.heap.size) (by omega) 0 (.int .i64 a')).set (b := w.heap.size) (by omega) 1 (.int .i64 b')).set (b := w.heap.size) (by omega) 2 (.int .i64 c')).set (b := w.heap.size + 1) (by omega) 0 (.slice (some ⟨gl, 0, none⟩) n vc)).set (b := w.heap.size + 1) (by omega) 1 (.int .i64 l)).set (b := w.heap.size + 1) (by omega) 2 (.int .i64 e)).set (b := w.heap.size + 1) (by omega) 3 (.int .i64 d))
            have hb8 := (((((((hbb.setCell (p := ⟨w.heap.size, 0, none⟩) (Nat.le_refl _) (.int .i64 a')).setCell (p := ⟨w.heap.size, 1, none⟩) (Nat.le_refl _) (.int .i64 b')).setCell (p := ⟨w.heap.size, 2, none⟩) (Nat.le_refl _) (.int .i64 c')).setCell (p := ⟨w.heap.size + 1, 0, none⟩) (Nat.le_succ _) (.slice (some ⟨gl, 0, none⟩) n vc)).setCell (p := ⟨w.heap.size + 1, 1, none⟩) (Nat.le_succ _) (.int .i64 l)).setCell (p := ⟨w.heap.size + 1, 2, none⟩) (Nat.le_succ _) (.int .i64 e)).setCell (p := ⟨w.heap.size + 1, 3, none⟩) (Nat.le_succ _) (.int .i64 d))
            obtain ⟨z0, z1, z2, zf0, zf1, zf2⟩ := three hR2
            obtain ⟨p0, p1, p2, pf0, pf1, pf2⟩ := three hPv
            obtain ⟨r0, r1, r2, r3, rf0, rf1, rf2, rf3⟩ := four hR3
            obtain ⟨t0, t1, t2, t3, tf0, tf1, tf2, tf3⟩ := four hX
            clear hR2 hR3 hPv hX
            go_wp2_with fail
            go_region
            all_goals
              go_wp2
              exact bodyPost_ret (v := .tuple #[.agg #[.int .i64 a', .int .i64 b', .int .i64 c'], prV (.slice (some ⟨gl, 0, none⟩) n vc) l e d]) (by simp [results, Try.results11, go_sem, z0, z1, z2, r0, r1, r2, r3]) rfl ⟨_, _, _, _, n, _, _, _, _, rfl, (hO8.mono (show w.heap.size ≤ w.heap.size + 3 by omega)).drew, hn31, hb8.drew⟩
        · have hn1i : ¬ (1 : Int) < (n : Int) := by omega
          obtain ⟨t0, t1, t2, t3, tf0, tf1, tf2, tf3⟩ := four hX
          have hO8 := (((((((hO.set (b := w.heap.size) (by omega) 0 (.int .i64 a')).set (b := w.heap.size) (by omega) 1 (.int .i64 b')).set (b := w.heap.size) (by omega) 2 (.int .i64 c')).set (b := w.heap.size + 1) (by omega) 0 (.slice va n vc)).set (b := w.heap.size + 1) (by omega) 1 (.int .i64 l)).set (b := w.heap.size + 1) (by omega) 2 (.int .i64 e)).set (b := w.heap.size + 1) (by omega) 3 (.int .i64 d))
          have hb8 := (((((((hbb.setCell (p := ⟨w.heap.size, 0, none⟩) (Nat.le_refl _) (.int .i64 a')).setCell (p := ⟨w.heap.size, 1, none⟩) (Nat.le_refl _) (.int .i64 b')).setCell (p := ⟨w.heap.size, 2, none⟩) (Nat.le_refl _) (.int .i64 c')).setCell (p := ⟨w.heap.size + 1, 0, none⟩) (Nat.le_succ _) (.slice va n vc)).setCell (p := ⟨w.heap.size + 1, 1, none⟩) (Nat.le_succ _) (.int .i64 l)).setCell (p := ⟨w.heap.size + 1, 2, none⟩) (Nat.le_succ _) (.int .i64 e)).setCell (p := ⟨w.heap.size + 1, 3, none⟩) (Nat.le_succ _) (.int .i64 d))
          obtain ⟨z0, z1, z2, zf0, zf1, zf2⟩ := three hR2
          obtain ⟨p0, p1, p2, pf0, pf1, pf2⟩ := three hPv
          obtain ⟨r0, r1, r2, r3, rf0, rf1, rf2, rf3⟩ := four hR3
          clear hR2 hR3 hPv hX
          go_wp2_with fail
          go_region
          all_goals
            go_wp2
            exact bodyPost_ret (v := .tuple #[.agg #[.int .i64 a', .int .i64 b', .int .i64 c'], prV (.slice va n vc) l e d]) (by simp [results, Try.results11, go_sem, z0, z1, z2, r0, r1, r2, r3]) rfl ⟨_, _, _, _, n, f, _, _, _, rfl, (hO8.mono (show w.heap.size ≤ w.heap.size + 3 by omega)).drew, hn31, hb8.drew⟩

end Go.Proofs.Ytnmaljieaflnmaa
