/-
  FnExactDueIn, told what the program answers.
-/
import Derived.Test.YtnmaljieaflnmaaL15
import Derived.Test.YtnmaljieaflnmaaL12
import Derived.Test.YtnmaljieaflnmaaL06
import Derived.Test.YtnmaljieaflnmaaL07
import Derived.Test.YtnmaljieaflnmaaL08
import Derived.Test.YtnmaljieaflnmaaL11
namespace Go.Proofs.Ytnmaljieaflnmaa
open Go.RowKit Go.Joins Go.ChangeShapes Go.WideShapes Go.ChangeAt Go.Deep
set_option linter.unusedVariables false

set_option maxRecDepth 100000 in
set_option maxHeartbeats 8000000 in
theorem dueIn_small {g : Int → Int → Int → Me → List Int} (hSp : AsksML 32 g) (hI : AsksML 33 g) (a b c : Int) {tv pv : Value} {M : Me} {w : World} (hs : sizeM M ≤ 1048576) (hg : (g a b c M).length ≤ 1048576) (h : MemAt w tv pv M) :
    Calls Try.prog 8 #[.agg #[.int .i64 a, .int .i64 b, .int .i64 c], meV M.c tv pv] w fun x w' => x = .returned (.bool true) ∧ Below w.heap.size w w' := by
  obtain ⟨l, hl⟩ : ∃ l, l = (g a b c M) := ⟨_, rfl⟩
  have HS := Lib.hid (show ∀ (tv pv : Value) (w : World), MemAt w tv pv M → Calls Try.prog 32 #[.agg #[.int .i64 a, .int .i64 b, .int .i64 c], meV M.c tv pv] w (NewInts l w) by rw [hl]; exact fun tv pv w h => hSp a b c tv pv M w hs h)
  have HI := Lib.hid (show ∀ (tv pv : Value) (w : World), MemAt w tv pv M → Calls Try.prog 33 #[.agg #[.int .i64 a, .int .i64 b, .int .i64 c], meV M.c tv pv] w (NewInts l w) by rw [hl]; exact fun tv pv w h => hI a b c tv pv M w hs h)
  rw [← hl] at hg
  clear hl hSp hI
  obtain ⟨va, vc, qa, qc, rfl, rfl⟩ := h.form
  have kw := ((Below.refl w.heap.size w).alloc (Nat.le_refl _) (.cells #[.int .i64 a, .int .i64 b, .int .i64 c] 43)).alloc (by simp) (memO M.c (.slice va M.tn vc) (.slice qa M.pn qc) 47)
  have hA := h.range.keep (Same.of_below kw (Nat.le_refl _))
  have hX := heap_alloc_new (w.alloc (.cells #[.int .i64 a, .int .i64 b, .int .i64 c] 43)) (memO M.c (.slice va M.tn vc) (.slice qa M.pn qc) 47)
  rw [show (w.alloc (.cells #[.int .i64 a, .int .i64 b, .int .i64 c] 43)).heap.size = w.heap.size + 1 by simp] at hX
  have hP := alloc_block (memO M.c (.slice va M.tn vc) (.slice qa M.pn qc) 47) (heap_alloc_new w (.cells #[.int .i64 a, .int .i64 b, .int .i64 c] 43))
  have HSZ := Lib.hid (szMem_ok (h.below kw) 1048576 (by decide) (by omega))
  obtain ⟨z, hze⟩ : ∃ z : Int, z = 1048576 - ((sizeM M : Nat) : Int) := ⟨_, rfl⟩
  have hz : decide (z < 0) = false := by simp; omega
  have HZ := Lib.hid hze
  have hw2 : w.heap.size + 2 ≤ ((w.alloc (.cells #[.int .i64 a, .int .i64 b, .int .i64 c] 43)).alloc (memO M.c (.slice va M.tn vc) (.slice qa M.pn qc) 47)).heap.size := by simp
  clear h hze
  go_enter Try.func8, Try.ntmps8
  go_wp2_with fail
  go_at_call 20; refine HSZ.out.mono ?_; rw [← HZ.out]; rintro x W2 ⟨rfl, hb⟩
  replace hP := b_block hb hP (lt_of_block hP)
  replace hX := b_block hb hX (lt_of_block hX)
  replace hA := hA.keep (Same.of_below hb (by omega))
  have sz := hb.size
  replace kw := kw.trans (hb.mono kw.size)
  clear hb
  go_upto_region 5 with fail
  go_cut [6] (fun v6 wx => ∃ (n6 : Option Addr) (c6 : Nat), v6 = .slice n6 l.length c6 ∧ RowIAt wx (.slice n6 l.length c6) l.length (ofL l) ∧ Below W2.heap.size W2 wx)
  case first =>
    have HP := Lib.hid hP; have HX := Lib.hid hX; have lP := lt_of_block hP; have lX := lt_of_block hX
    have HA := Lib.hid (hA.at (by omega))
    obtain ⟨y0, y1, y2, _, _, _⟩ := three HP.out
    obtain ⟨x0, x1, x2, _, _, _⟩ := three HX.out
    have kk := (Below.refl W2.heap.size W2).drew
    go_region_held3 (fun w' => w'.cell? ⟨w.heap.size, 0, none⟩ = some (.int .i64 a) ∧ w'.cell? ⟨w.heap.size, 1, none⟩ = some (.int .i64 b) ∧ w'.cell? ⟨w.heap.size, 2, none⟩ = some (.int .i64 c) ∧ w'.cell? ⟨w.heap.size + 1, 0, none⟩ = some (.int .i64 M.c) ∧ w'.cell? ⟨w.heap.size + 1, 1, none⟩ = some (.slice va M.tn vc) ∧ w'.cell? ⟨w.heap.size + 1, 2, none⟩ = some (.slice qa M.pn qc))
      (first | exact ⟨y0, y1, y2, x0, x1, x2⟩ | exact ⟨(kk.cell (p := ⟨w.heap.size, 0, none⟩) lP).trans (cell_of_block HP.out 0), (kk.cell (p := ⟨w.heap.size, 1, none⟩) lP).trans (cell_of_block HP.out 1), (kk.cell (p := ⟨w.heap.size, 2, none⟩) lP).trans (cell_of_block HP.out 2), (kk.cell (p := ⟨w.heap.size + 1, 0, none⟩) lX).trans (cell_of_block HX.out 0), (kk.cell (p := ⟨w.heap.size + 1, 1, none⟩) lX).trans (cell_of_block HX.out 1), (kk.cell (p := ⟨w.heap.size + 1, 2, none⟩) lX).trans (cell_of_block HX.out 2)⟩ | go_keep)
      (first
        | (go_at_call 22; refine (toPlan_any _ _ _ _).mono ?_; rintro x wp ⟨rfl, hb⟩; replace kk := kk.trans (hb.mono kk.size); clear hb)
        | (go_at_call 23; refine (toMem_any hs (HA.out.below kk)).mono ?_; rintro x w3 ⟨u1, u2, rfl, hU1, hb⟩; replace kk := kk.trans (hb.mono kk.size); clear hb)
        | (go_at_call 32; refine (HS.out _ _ _ hU1.at).mono ?_; rintro x w4 ⟨v6, rfl, hO6, hb⟩; replace kk := kk.trans (hb.mono kk.size); clear hb; obtain ⟨n6, c6, e6⟩ := hO6.row.form; subst e6))
    all_goals
      go_wp2_with fail
      go_meet
      exact ⟨_, _, rfl, hO6.row, kk⟩
  case rest =>
    obtain ⟨n6, c6, rfl, h6, hb⟩ := hcut
    have hR6 := h6.range
    have hE6 := Nat.le_refl wc.heap.size
    obtain ⟨E6, hE⟩ : ∃ E, E = wc.heap.size := ⟨_, rfl⟩
    rw [← hE] at hR6
    clear h6
    replace hP := b_block hb hP (lt_of_block hP)
    replace hX := b_block hb hX (lt_of_block hX)
    replace hA := hA.keep (Same.of_below hb (by omega))
    have sz := hb.size
    replace kw := kw.trans (hb.mono kw.size)
    clear hb
    obtain ⟨x0, x1, x2, _, _, _⟩ := three hX
    go_wp2_with fail
    go_at_call 23; refine (toMem_any hs (hA.at (by omega))).mono ?_; rintro x w5 ⟨u9, z9, rfl, hO9, hb⟩
    obtain ⟨t9, s9, p9, r9, hu9, hz9⟩ := hO9.at.form
    subst hu9 hz9
    clear x0 x1 x2
    have lB9 := hb.size
    replace hP := b_block hb hP (lt_of_block hP)
    replace hX := b_block hb hX (lt_of_block hX)
    replace hA := hA.keep (Same.of_below hb (by omega))
    replace hR6 := hR6.keep (Same.of_below hb (by omega))
    have sz := hb.size
    replace kw := kw.trans (hb.mono kw.size)
    clear hb
    have hb := (Below.refl w5.heap.size w5).alloc (Nat.le_refl _) (memO M.c (.slice t9 M.tn s9) (.slice p9 M.pn r9) 54)
    have hB9 := heap_alloc_new w5 (memO M.c (.slice t9 M.tn s9) (.slice p9 M.pn r9) 54)
    have hO9' := hO9.inn.keep (Same.of_below hb (Nat.le_refl _))
    have lC9 : w5.heap.size < (w5.alloc (memO M.c (.slice t9 M.tn s9) (.slice p9 M.pn r9) 54)).heap.size := by simp
    clear hO9
    replace hP := b_block hb hP (lt_of_block hP)
    replace hX := b_block hb hX (lt_of_block hX)
    replace hA := hA.keep (Same.of_below hb (by omega))
    replace hR6 := hR6.keep (Same.of_below hb (by omega))
    have sz := hb.size
    replace kw := kw.trans (hb.mono kw.size)
    clear hb
    go_upto_region 7 with fail
    generalize w5.alloc (memO M.c (.slice t9 M.tn s9) (.slice p9 M.pn r9) 54) = W7 at * 
    obtain ⟨B9, hBB⟩ : ∃ B, B = wc.heap.size := ⟨_, rfl⟩
    rw [← hBB] at hO9' lB9
    go_cut [8] (fun v8 wx => ∃ (n8 : Option Addr) (c8 B2 C2 : Nat), v8 = .slice n8 l.length c8 ∧ W7.heap.size ≤ B2 ∧ C2 ≤ wx.heap.size ∧ OwnIIn wx B2 C2 (.slice n8 l.length c8) l.length (ofL l) ∧ Below W7.heap.size W7 wx)
    case first =>
      have HP := Lib.hid hP; have HX := Lib.hid hB9; have lP := lt_of_block hP; have lX := lt_of_block hB9
      have HM9 := Lib.hid (hO9'.range.at (by omega))
      obtain ⟨y0, y1, y2, _, _, _⟩ := three HP.out
      obtain ⟨x0, x1, x2, _, _, _⟩ := three HX.out
      have kk := (Below.refl W7.heap.size W7).drew
      go_region_held3 (fun w' => w'.cell? ⟨w.heap.size, 0, none⟩ = some (.int .i64 a) ∧ w'.cell? ⟨w.heap.size, 1, none⟩ = some (.int .i64 b) ∧ w'.cell? ⟨w.heap.size, 2, none⟩ = some (.int .i64 c) ∧ w'.cell? ⟨w5.heap.size, 0, none⟩ = some (.int .i64 M.c) ∧ w'.cell? ⟨w5.heap.size, 1, none⟩ = some (.slice t9 M.tn s9) ∧ w'.cell? ⟨w5.heap.size, 2, none⟩ = some (.slice p9 M.pn r9))
        (first | exact ⟨y0, y1, y2, x0, x1, x2⟩ | exact ⟨(kk.cell (p := ⟨w.heap.size, 0, none⟩) lP).trans (cell_of_block HP.out 0), (kk.cell (p := ⟨w.heap.size, 1, none⟩) lP).trans (cell_of_block HP.out 1), (kk.cell (p := ⟨w.heap.size, 2, none⟩) lP).trans (cell_of_block HP.out 2), (kk.cell (p := ⟨w5.heap.size, 0, none⟩) lX).trans (cell_of_block HX.out 0), (kk.cell (p := ⟨w5.heap.size, 1, none⟩) lX).trans (cell_of_block HX.out 1), (kk.cell (p := ⟨w5.heap.size, 2, none⟩) lX).trans (cell_of_block HX.out 2)⟩ | go_keep)
        (first
          | (go_at_call 22; refine (toPlan_any _ _ _ _).mono ?_; rintro x wp ⟨rfl, hb⟩; replace kk := kk.trans (hb.mono kk.size); clear hb)
          | (go_at_call 33; refine (HI.out _ _ _ (HM9.out.below kk)).mono ?_; rintro x w4 ⟨v8, rfl, hO8, hb⟩; have kkB := kk.size; replace kk := kk.trans (hb.mono kk.size); clear hb; have lk8 := kkB; obtain ⟨n8, c8, e8⟩ := hO8.row.form; subst e8))
      all_goals
        go_wp2_with fail
        go_meet
        exact ⟨_, _, _, _, rfl, lk8, Nat.le_refl _, hO8.inn, kk⟩
    case rest =>
      obtain ⟨n8, c8, B2, C2, rfl, lB2, lC2, hO8, hb⟩ := hcut
      replace hP := b_block hb hP (lt_of_block hP)
      replace hX := b_block hb hX (lt_of_block hX)
      replace hB9 := b_block hb hB9 (lt_of_block hB9)
      replace hA := hA.keep (Same.of_below hb (by omega))
      replace hR6 := hR6.keep (Same.of_below hb (by omega))
      replace hO9' := hO9'.keep (Same.of_below hb (by omega))
      have sz := hb.size
      replace kw := kw.trans (hb.mono kw.size)
      clear hb
      go_wp2_with fail
      go_at_call 34; refine (eqInt64S_same hg (hO8.range.row (by omega)) (hR6.row (by omega))).mono ?_; rintro x wb ⟨rfl, hb⟩
      replace hP := b_block hb hP (lt_of_block hP)
      replace hX := b_block hb hX (lt_of_block hX)
      replace hB9 := b_block hb hB9 (lt_of_block hB9)
      replace hA := hA.keep (Same.of_below hb (by omega))
      replace hR6 := hR6.keep (Same.of_below hb (by omega))
      replace hO9' := hO9'.keep (Same.of_below hb (by omega))
      replace hO8 := hO8.keep (Same.of_below hb (by omega))
      have sz := hb.size
      replace kw := kw.trans (hb.mono kw.size)
      clear hb
      go_upto_region 10 with fail
      have HX := Lib.hid hX; have HB9 := Lib.hid hB9; have lX := lt_of_block hX; have l9 := lt_of_block hB9
      have HA := Lib.hid (hA.at (by omega)); have HM9 := Lib.hid (hO9'.range.at (by omega))
      obtain ⟨x0, x1, x2, _, _, _⟩ := three HX.out
      obtain ⟨y0, y1, y2, _, _, _⟩ := three HB9.out
      have kk := (Below.refl wb.heap.size wb).drew
      go_region_held3 (fun w' => w'.cell? ⟨w.heap.size + 1, 0, none⟩ = some (.int .i64 M.c) ∧ w'.cell? ⟨w.heap.size + 1, 1, none⟩ = some (.slice va M.tn vc) ∧ w'.cell? ⟨w.heap.size + 1, 2, none⟩ = some (.slice qa M.pn qc) ∧ w'.cell? ⟨w5.heap.size, 0, none⟩ = some (.int .i64 M.c) ∧ w'.cell? ⟨w5.heap.size, 1, none⟩ = some (.slice t9 M.tn s9) ∧ w'.cell? ⟨w5.heap.size, 2, none⟩ = some (.slice p9 M.pn r9))
        (first | exact ⟨x0, x1, x2, y0, y1, y2⟩ | exact ⟨(kk.cell (p := ⟨w.heap.size + 1, 0, none⟩) lX).trans (cell_of_block HX.out 0), (kk.cell (p := ⟨w.heap.size + 1, 1, none⟩) lX).trans (cell_of_block HX.out 1), (kk.cell (p := ⟨w.heap.size + 1, 2, none⟩) lX).trans (cell_of_block HX.out 2), (kk.cell (p := ⟨w5.heap.size, 0, none⟩) l9).trans (cell_of_block HB9.out 0), (kk.cell (p := ⟨w5.heap.size, 1, none⟩) l9).trans (cell_of_block HB9.out 1), (kk.cell (p := ⟨w5.heap.size, 2, none⟩) l9).trans (cell_of_block HB9.out 2)⟩ | go_keep)
        (first
          | (go_at_call 23; refine (toMem_any hs (HA.out.below kk)).mono ?_; rintro x w6 ⟨u4, u5, rfl, hU4, hb⟩; replace kk := kk.trans (hb.mono kk.size); clear hb)
          | (go_at_call 25; refine (eqMem_same hs (HM9.out.below kk) hU4.at).mono ?_; rintro x wq ⟨rfl, hb⟩; replace kk := kk.trans (hb.mono kk.size); clear hb))
      all_goals
        clear x0 x1 x2 y0 y1 y2 HX HB9 HA HM9
        have hb := kk
        replace hP := b_block hb hP (lt_of_block hP)
        replace hX := b_block hb hX (lt_of_block hX)
        replace hB9 := b_block hb hB9 (lt_of_block hB9)
        replace hA := hA.keep (Same.of_below hb (by omega))
        replace hR6 := hR6.keep (Same.of_below hb (by omega))
        replace hO9' := hO9'.keep (Same.of_below hb (by omega))
        replace hO8 := hO8.keep (Same.of_below hb (by omega))
        have sz := hb.size
        replace kw := kw.trans (hb.mono kw.size)
        clear hb
        clear kk
        obtain ⟨x0, x1, x2, _, _, _⟩ := three hB9
        go_wp2_with fail
        go_at_call 28; refine (markMem_any 1 (by decide) (by decide) hs hO9' (by omega)).mono ?_; rintro x wd ⟨rfl, hO9d, hmd⟩
        clear x0 x1 x2 hO9d
        replace hP := (hmd.block _ (lt_of_block hP) (.inl (by omega))).trans hP
        replace hX := (hmd.block _ (lt_of_block hX) (.inl (by omega))).trans hX
        replace hA := hA.keep (Same.of_mid_lo hmd (by omega) (by omega))
        replace hR6 := hR6.keep (Same.of_mid_lo hmd (by omega) (by omega))
        replace hO8 := hO8.keep (Same.of_mid_hi hmd (by omega) (by omega))
        have sz := hmd.size
        replace kw := kw.trans (hmd.belowN (n := w.heap.size) (by omega) (by omega))
        clear hmd
        have mk0 : decide (markEnd M 1 < 0) = false := by have := @markEnd_ge M 1; simp; omega
        go_wp2_with fail
        go_at_call 34; refine (eqInt64S_same hg (hO8.range.row (by omega)) (hR6.row (by omega))).mono ?_; rintro x wb ⟨rfl, hb⟩
        replace hP := b_block hb hP (lt_of_block hP)
        replace hX := b_block hb hX (lt_of_block hX)
        replace hA := hA.keep (Same.of_below hb (by omega))
        replace hR6 := hR6.keep (Same.of_below hb (by omega))
        replace hO8 := hO8.keep (Same.of_below hb (by omega))
        have sz := hb.size
        replace kw := kw.trans (hb.mono kw.size)
        clear hb
        go_wp2_with fail
        go_at_call 35; refine (markIRow_any 1 (by decide) (by decide) hg hO8).mono ?_; rintro x wf ⟨rfl, hOF, hmd⟩
        replace hP := (hmd.block _ (lt_of_block hP) (.inl (by omega))).trans hP
        replace hX := (hmd.block _ (lt_of_block hX) (.inl (by omega))).trans hX
        replace hA := hA.keep (Same.of_mid_lo hmd (by omega) (by omega))
        replace hR6 := hR6.keep (Same.of_mid_lo hmd (by omega) (by omega))
        have sz := hmd.size
        replace kw := kw.trans (hmd.belowN (n := w.heap.size) (by omega) (by omega))
        clear hmd
        clear hO8
        have mg0 : decide ((1 : Int) + (l.length : Int) < 0) = false := by simp; omega
        go_wp2_with fail
        go_at_call 36; refine (heldInt64S_any 1 (by decide) (by decide) hg (hOF.range.row (by omega))).mono ?_; rintro x w' ⟨rfl, rfl⟩
        go_upto_region 24 with fail
        go_cut [12] (fun v12 wx => ∃ (n12 : Option Addr) (c12 : Nat), v12 = .slice n12 l.length c12 ∧ RowIAt wx (.slice n12 l.length c12) l.length (ofL l) ∧ Below wf.heap.size wf wx)
        case first =>
          have HP := Lib.hid hP; have HX := Lib.hid hX; have lP := lt_of_block hP; have lX := lt_of_block hX
          have HA := Lib.hid (hA.at (by omega))
          obtain ⟨y0, y1, y2, _, _, _⟩ := three HP.out
          obtain ⟨x0, x1, x2, _, _, _⟩ := three HX.out
          have kk := (Below.refl wf.heap.size wf).drew
          go_region_held3 (fun w' => w'.cell? ⟨w.heap.size, 0, none⟩ = some (.int .i64 a) ∧ w'.cell? ⟨w.heap.size, 1, none⟩ = some (.int .i64 b) ∧ w'.cell? ⟨w.heap.size, 2, none⟩ = some (.int .i64 c) ∧ w'.cell? ⟨w.heap.size + 1, 0, none⟩ = some (.int .i64 M.c) ∧ w'.cell? ⟨w.heap.size + 1, 1, none⟩ = some (.slice va M.tn vc) ∧ w'.cell? ⟨w.heap.size + 1, 2, none⟩ = some (.slice qa M.pn qc))
            (first | exact ⟨y0, y1, y2, x0, x1, x2⟩ | exact ⟨(kk.cell (p := ⟨w.heap.size, 0, none⟩) lP).trans (cell_of_block HP.out 0), (kk.cell (p := ⟨w.heap.size, 1, none⟩) lP).trans (cell_of_block HP.out 1), (kk.cell (p := ⟨w.heap.size, 2, none⟩) lP).trans (cell_of_block HP.out 2), (kk.cell (p := ⟨w.heap.size + 1, 0, none⟩) lX).trans (cell_of_block HX.out 0), (kk.cell (p := ⟨w.heap.size + 1, 1, none⟩) lX).trans (cell_of_block HX.out 1), (kk.cell (p := ⟨w.heap.size + 1, 2, none⟩) lX).trans (cell_of_block HX.out 2)⟩ | go_keep)
            (first
              | (go_at_call 22; refine (toPlan_any _ _ _ _).mono ?_; rintro x wp ⟨rfl, hb⟩; replace kk := kk.trans (hb.mono kk.size); clear hb)
              | (go_at_call 23; refine (toMem_any hs (HA.out.below kk)).mono ?_; rintro x w3 ⟨u1, u2, rfl, hU1, hb⟩; replace kk := kk.trans (hb.mono kk.size); clear hb)
              | (go_at_call 33; refine (HI.out _ _ _ hU1.at).mono ?_; rintro x w4 ⟨v6, rfl, hO6, hb⟩; replace kk := kk.trans (hb.mono kk.size); clear hb; obtain ⟨n6, c6, e6⟩ := hO6.row.form; subst e6))
          all_goals
            go_wp2_with fail
            go_meet
            exact ⟨_, _, rfl, hO6.row, kk⟩
        case rest =>
          obtain ⟨n12, c12, rfl, h12, hb⟩ := hcut
          have hR12 := h12.range
          clear h12
          replace hP := b_block hb hP (lt_of_block hP)
          replace hX := b_block hb hX (lt_of_block hX)
          replace hA := hA.keep (Same.of_below hb (by omega))
          replace hR6 := hR6.keep (Same.of_below hb (by omega))
          replace hOF := hOF.keep (Same.of_below hb (by omega))
          have sz := hb.size
          replace kw := kw.trans (hb.mono kw.size)
          clear hb
          go_wp2_with fail
          go_at_call 34; refine (eqInt64S_same hg (hR12.row (by omega)) (hR6.row (by omega))).mono ?_; rintro x wb ⟨rfl, hb⟩
          replace hP := b_block hb hP (lt_of_block hP)
          replace hX := b_block hb hX (lt_of_block hX)
          replace hA := hA.keep (Same.of_below hb (by omega))
          replace hR6 := hR6.keep (Same.of_below hb (by omega))
          replace hOF := hOF.keep (Same.of_below hb (by omega))
          replace hR12 := hR12.keep (Same.of_below hb (by omega))
          have sz := hb.size
          replace kw := kw.trans (hb.mono kw.size)
          clear hb
          go_wp2_with fail
          go_at_call 36; refine (heldInt64S_any 1 (by decide) (by decide) hg (hOF.range.row (by omega))).mono ?_; rintro x w' ⟨rfl, rfl⟩
          go_wp2
          go_ret
          exact ⟨rfl, kw⟩

set_option maxRecDepth 100000 in
set_option maxHeartbeats 1000000 in
theorem dueIn_big (a b c : Int) {tv pv : Value} {M : Me} {w : World} (htn : M.tn ≤ maxLen) (hpn : M.pn ≤ maxLen) (hns : ∀ i, i < M.pn → (M.p i).n ≤ maxLen) (hs : ¬ sizeM M ≤ 1048576) (h : MemAt w tv pv M) :
    Calls Try.prog 8 #[.agg #[.int .i64 a, .int .i64 b, .int .i64 c], meV M.c tv pv] w fun x w' => x = .returned (.bool true) ∧ Below w.heap.size w w' := by
  obtain ⟨va, vc, qa, qc, rfl, rfl⟩ := h.form
  have k0 := ((Below.refl w.heap.size w).alloc (Nat.le_refl _) (.cells #[.int .i64 a, .int .i64 b, .int .i64 c] 43)).alloc (by simp) (memO M.c (.slice va M.tn vc) (.slice qa M.pn qc) 47)
  have HSZ := Lib.hid (szMem_big (h.below k0) htn hpn hns 1048576 (by decide) (by decide) (by omega))
  clear h htn hpn hns
  go_enter Try.func8, Try.ntmps8
  go_wp2_with fail
  go_at_call 20; refine HSZ.out.mono ?_; rintro x w1 ⟨rfl, hb⟩
  go_wp2
  go_ret
  exact ⟨rfl, k0.trans (hb.mono k0.size)⟩

set_option maxRecDepth 100000 in
theorem exactDueIn_lifted (hI : AsksML 33 dueInL) (os : Os) (started : os.Started) (H : Type) (enc : TypeId × Value → H) :
    ReturnsInHanded {} Try.checked os 8 .any (Rows.fnExactDueInSpec.pre6 enc Try.prog Try.f8 Rows.fnExactDueInRow.domain false) (Rows.fnExactDueInSpec.post enc Try.prog Try.f8 false true false false) := by
  refine returnsInHanded_of_change (C := Try.checked) own started (by kernel_rfl) Try.func8
    (ChangeSpec.witness6 (enc := enc) (C := Try.checked) false ⟨#[], #[.agg #[.int .i64 0, .int .i64 0, .int .i64 0], .agg #[.int .i64 0, .slice none 0 0, .slice none 0 0]], []⟩ 8 (by kernel_rfl) (by kernel_rfl) (by kernel_rfl) (by kernel_rfl)) ?_
  intro W base args ds gs before hval0 hW _ _
  have hval : ∀ (j : Nat) t v, Try.f8.params[j]? = some t → args[j]? = some v → Value.okWide Try.prog W .any base t v := hval0
  have hW' := hW
  obtain ⟨p, q, hA0, hV, rfl, _, _⟩ := hW
  have hA : DataW.TrodAll enc Try.prog W 0 (fun _ => true) true Try.f8.params.toList args.toList ds p := hA0
  rw [Try.params8] at hA hval
  obtain ⟨v0, v1, d0, d1, p0, p1, rfl, rfl, rfl, h0, h1⟩ := trodAll_two hA
  obtain ⟨rfl, rfl⟩ := trodVars_none hV
  have lt0 : ∀ x ∈ p0, x.block < W.heap.size := by obtain ⟨m, hm⟩ := h0; exact DataW.trod_lt m _ _ _ hm
  have lt1 : ∀ x ∈ p1, x.block < W.heap.size := by obtain ⟨m, hm⟩ := h1; exact DataW.trod_lt m _ _ _ hm
  obtain ⟨a, b, c, rfl⟩ := plan_inM (hval 0 43 v0 rfl rfl) h0
  obtain ⟨tv, pv, M, rfl, htn, hpn, hns, hM⟩ := mem_in (hval 1 47 v1 rfl rfl) h1
  clear hA0 hval0
  have key : Calls Try.prog 8 #[.agg #[.int .i64 a, .int .i64 b, .int .i64 c], meV M.c tv pv] W fun x w' => x = .returned (.bool true) ∧ Below W.heap.size W w' := by
    by_cases hs : sizeM M ≤ 1048576
    · exact dueIn_small spDueIn_any hI a b c hs (dueInL_le a b c hs) hM
    · exact dueIn_big a b c htn hpn hns hs hM
  refine key.mono fun x W' ⟨he, hb⟩ => ?_
  subst he
  exact ⟨_, rfl, _, _, _, [], _, [], hW', trodAll_mk1 (shut_bool Try.underlying4 _), trodAll_mk2 (Below.trod laidOut (by kernel_rfl) (of_decide_eq_true (by kernel_rfl)) h0 hb lt0) (Below.trod laidOut (by kernel_rfl) (of_decide_eq_true (by kernel_rfl)) h1 hb lt1), rfl, hb.frame _, fun h => by cases h⟩

theorem exactDueIn_holds (hI : AsksML 33 dueInL) : Rows.FnExactDueInSaid :=
  OpenClaim.holds_of_wide 8 Try.f8 rfl rfl rfl rfl rfl rfl rfl ⟨rfl, rfl, rfl, rfl, rfl⟩ rfl rfl rfl rfl rfl (by kernel_rfl) Try.func8 (by kernel_rfl)
    (of_decide_eq_true (by kernel_rfl)) (by unfold Func.isWrapper; rw [if_neg (of_decide_eq_false (by kernel_rfl))]; exact ⟨rfl, rfl⟩)
    (fun os started H enc _ => exactDueIn_lifted hI os started H enc)

end Go.Proofs.Ytnmaljieaflnmaa

/-
  The first of some times, or never (chapter 4).
-/
namespace Go.Proofs.Ytnmaljieaflnmaa
open Go.RowKit Go.Joins
set_option linter.unusedVariables false

set_option maxHeartbeats 400000 in
theorem firstOf_none {v : Value} {w : World} (hv : ∃ a cap, v = .slice a 0 cap) :
    Calls Try.prog 89 #[v] w fun e w' => e = .returned (.int .i64 (-1)) ∧ Below w.heap.size w w' := by
  obtain ⟨a, cap, rfl⟩ := hv
  go_enter Try.func89, Try.ntmps89
  go_wp2
  go_ret
  exact ⟨rfl, Below.refl _ _⟩
set_option maxHeartbeats 400000 in
theorem firstOf_some {v : Value} {n : Nat} {f : Ints} {w : World} (hn : n ≤ 1048576) (h0 : 0 < n) (h : RowIAt w v n f) :
    Calls Try.prog 89 #[v] w fun e w' => e = .returned (.int .i64 (leastI f (n - 1))) ∧ Below w.heap.size w w' := by
  obtain ⟨a, cap, rfl⟩ := h.form
  have H := Lib.hid h
  have hz : ((n : Int) == 0) = false := by simp; omega
  clear h
  go_enter Try.func89, Try.ntmps89
  go_wp2_with fail
  go_at_call 115; refine (minOf_any hn h0 H.out).mono ?_; rintro x w1 ⟨rfl, hb⟩
  go_wp2
  go_ret
  exact ⟨rfl, hb⟩
theorem firstOf_any {v : Value} {n : Nat} {f : Ints} {w : World} (hn : n ≤ 1048576) (h : RowIAt w v n f) :
    Calls Try.prog 89 #[v] w fun e w' => e = .returned (.int .i64 (if n = 0 then -1 else leastI f (n - 1))) ∧ Below w.heap.size w w' := by
  by_cases h0 : n = 0
  · subst h0
    rw [if_pos rfl]
    exact firstOf_none h.form
  · rw [if_neg h0]
    exact firstOf_some hn (by omega) h

end Go.Proofs.Ytnmaljieaflnmaa

/-
  Processors, in the program (chapter 4): when to wake.
-/
namespace Go.Proofs.Ytnmaljieaflnmaa
open Go.RowKit Go.Joins
set_option linter.unusedVariables false

set_option maxRecDepth 100000 in
set_option maxHeartbeats 2000000 in
theorem pxWake_none {v : Value} (l e d : Int) {w : World} (he : e < 0) (hv : ∃ a cap, v = .slice a 0 cap) :
    Calls Try.prog 49 #[pxV v l e d] w fun x w' => x = .returned (.int .i64 (-1)) ∧ Below w.heap.size w w' := by
  obtain ⟨sa, cap, rfl⟩ := hv
  have k0 := (Below.refl w.heap.size w).alloc (Nat.le_refl _) (pxB (.slice sa 0 cap) l e d)
  have hd : decide (0 ≤ e) = false := by simpa using he
  have hn : ¬ 0 ≤ e := by omega
  go_enter Try.func49, Try.ntmps49
  go_wp2_with fail
  go_at_call 89; refine (firstOf_none ⟨_, _, rfl⟩).mono ?_; rintro x w1 ⟨rfl, hb⟩
  have k1 := k0.alloc k0.size (.cells #[] 2)
  have k2 := k1.trans (hb.mono k1.size)
  go_wp2
  go_ret
  exact ⟨rfl, k2⟩

set_option maxRecDepth 100000 in
set_option maxHeartbeats 2000000 in
theorem pxWake_top {v : Value} {n : Nat} {f : Slots} (l e d : Int) {w : World} (he : e < 0) (h0 : 0 < n) (hn : n ≤ 1048576) (h : RowAt w v n f) :
    Calls Try.prog 49 #[pxV v l e d] w fun x w' => x = .returned (.int .i64 (f 0).2) ∧ Below w.heap.size w w' := by
  rcases h with ⟨rfl, _⟩ | ⟨b, off, cap, rfl, hl, hc⟩
  · omega
  have k0 := (Below.refl w.heap.size w).alloc (Nat.le_refl _) (pxB (.slice (some ⟨b, off, none⟩) n cap) l e d)
  have k1 := k0.alloc k0.size (.cells #[] 2)
  have hs0 : (w.alloc (pxB (.slice (some ⟨b, off, none⟩) n cap) l e d)).heap.size = w.heap.size + 1 := by simp
  have hs1 : ((w.alloc (pxB (.slice (some ⟨b, off, none⟩) n cap) l e d)).alloc (.cells #[] 2)).heap.size = w.heap.size + 1 + 1 := by simp
  have ho := Lib.hid ((rowi_new (B := w.heap.size) hs0.symm k0.size).alloc (.cells #[.int .i64 (f 0).2] 2))
  have hS := Lib.hid (int_new (f 0).2 hs1.symm)
  have hB1 : w.heap.size ≤ (((w.alloc (pxB (.slice (some ⟨b, off, none⟩) n cap) l e d)).alloc (.cells #[] 2)).alloc (.cells #[.int .i64 (f 0).2] 2)).heap.size := by simp; omega
  have k2 := k1.alloc k1.size (.cells #[.int .i64 (f 0).2] 2)
  have hX2 := alloc_block (.cells #[.int .i64 (f 0).2] 2) (alloc_block (.cells #[] 2) (heap_alloc_new w (pxB (.slice (some ⟨b, off, none⟩) n cap) l e d)))
  have c1 : ((w.alloc (pxB (.slice (some ⟨b, off, none⟩) n cap) l e d)).alloc (.cells #[] 2)).cell? ⟨b, off + 1, none⟩ = some (.int .i64 (f 0).2) :=
    (k1.cell (p := ⟨b, off + 1, none⟩) hl).trans (by simpa using (hc 0 h0).2)
  have hX := alloc_block (.cells #[] 2) (heap_alloc_new w (pxB (.slice (some ⟨b, off, none⟩) n cap) l e d))
  obtain ⟨x0, x1, x2, x3, _, _, _, _⟩ := four hX
  have hd : decide (0 ≤ e) = false := by simpa using he
  have hne : ¬ 0 ≤ e := by omega
  have hp : (0 : Int) < (n : Int) := by omega
  have hpd : decide (0 < n) = true := by simpa using h0
  go_enter Try.func49, Try.ntmps49
  go_wp2_with (first
    | (at_builtin
       refine wpList_append_int rfl (.tmp 9) (.tmp 15) rfl w.heap.size _ 0 (fun _ => 0) rfl ho.out _ (f 0).2 rfl hS.out (by omega) hB1 ?_
       intro v' w' hown hg hat
       have hX3 : w'.heap[w.heap.size]? = some (pxB (.slice (some ⟨b, off, none⟩) n cap) l e d) := g_block (g := w.heap.size + 1) hg hX2 (by omega)
       have hbw := b_grown (g := w.heap.size + 1) hg (Nat.le_succ _) hB1
       obtain ⟨z0, z1, z2, z3, _, _, _, _⟩ := four hX3
       have hO := (owni_of_row hown).row
       obtain ⟨a2, p2, hv2⟩ := hO.form
       subst hv2
       have k3 := k2.trans hbw
       clear hown hat hg hbw hX3 x0 x1 x2 x3 c1 ho hS hX hX2 hc k0 k1 k2))
  go_at_call 89; refine (firstOf_some (by omega) (by omega) hO).mono ?_; rintro x w3 ⟨rfl, hb⟩
  have k4 := k3.trans (hb.mono k3.size)
  go_wp2
  go_ret
  exact ⟨rfl, k4⟩

set_option maxRecDepth 100000 in
set_option maxHeartbeats 2000000 in
theorem pxWake_early {v : Value} (l e d : Int) {w : World} (he : 0 ≤ e) (hv : ∃ a cap, v = .slice a 0 cap) :
    Calls Try.prog 49 #[pxV v l e d] w fun x w' => x = .returned (.int .i64 e) ∧ Below w.heap.size w w' := by
  obtain ⟨sa, cap, rfl⟩ := hv
  have k0 := (Below.refl w.heap.size w).alloc (Nat.le_refl _) (pxB (.slice sa 0 cap) l e d)
  have k1 := k0.alloc k0.size (.cells #[] 2)
  have hs0 : (w.alloc (pxB (.slice sa 0 cap) l e d)).heap.size = w.heap.size + 1 := by simp
  have hs1 : ((w.alloc (pxB (.slice sa 0 cap) l e d)).alloc (.cells #[] 2)).heap.size = w.heap.size + 1 + 1 := by simp
  have ho := Lib.hid ((rowi_new (B := w.heap.size) hs0.symm k0.size).alloc (.cells #[.int .i64 e] 2))
  have hS := Lib.hid (int_new e hs1.symm)
  have hB1 : w.heap.size ≤ (((w.alloc (pxB (.slice sa 0 cap) l e d)).alloc (.cells #[] 2)).alloc (.cells #[.int .i64 e] 2)).heap.size := by simp; omega
  have k2 := k1.alloc k1.size (.cells #[.int .i64 e] 2)
  have hd : decide (0 ≤ e) = true := by simpa using he
  go_enter Try.func49, Try.ntmps49
  go_wp2_with (first
    | (at_builtin
       refine wpList_append_int rfl (.tmp 20) (.tmp 23) rfl w.heap.size _ 0 (fun _ => 0) rfl ho.out _ e rfl hS.out (by omega) hB1 ?_
       intro v' w' hown hg hat
       have hbw := b_grown (g := w.heap.size + 1) hg (Nat.le_succ _) hB1
       have hO := (owni_of_row hown).row
       obtain ⟨a2, p2, hv2⟩ := hO.form
       subst hv2
       have k3 := k2.trans hbw
       clear hown hat hg hbw ho hS k0 k1 k2))
  go_at_call 89; refine (firstOf_some (by omega) (by omega) hO).mono ?_; rintro x w3 ⟨rfl, hb⟩
  have k4 := k3.trans (hb.mono k3.size)
  go_wp2
  go_ret
  exact ⟨rfl, k4⟩

set_option maxRecDepth 100000 in
set_option maxHeartbeats 4000000 in
theorem pxWake_both {v : Value} {n : Nat} {f : Slots} (l e d : Int) {w : World} (he : 0 ≤ e) (h0 : 0 < n) (hn : n ≤ 1048576) (h : RowAt w v n f) :
    Calls Try.prog 49 #[pxV v l e d] w fun x w' => x = .returned (.int .i64 (minI (f 0).2 e)) ∧ Below w.heap.size w w' := by
  rcases h with ⟨rfl, _⟩ | ⟨b, off, cap, rfl, hl, hc⟩
  · omega
  have k0 := (Below.refl w.heap.size w).alloc (Nat.le_refl _) (pxB (.slice (some ⟨b, off, none⟩) n cap) l e d)
  have k1 := k0.alloc k0.size (.cells #[] 2)
  have hs0 : (w.alloc (pxB (.slice (some ⟨b, off, none⟩) n cap) l e d)).heap.size = w.heap.size + 1 := by simp
  have hs1 : ((w.alloc (pxB (.slice (some ⟨b, off, none⟩) n cap) l e d)).alloc (.cells #[] 2)).heap.size = w.heap.size + 1 + 1 := by simp
  have ho := Lib.hid ((rowi_new (B := w.heap.size + 1) hs0.symm (Nat.le_of_eq hs0.symm)).alloc (.cells #[.int .i64 (f 0).2] 2))
  have hS := Lib.hid (int_new (f 0).2 hs1.symm)
  have hB1 : w.heap.size + 1 ≤ (((w.alloc (pxB (.slice (some ⟨b, off, none⟩) n cap) l e d)).alloc (.cells #[] 2)).alloc (.cells #[.int .i64 (f 0).2] 2)).heap.size := by simp
  have k2 := k1.alloc k1.size (.cells #[.int .i64 (f 0).2] 2)
  have hX2 := alloc_block (.cells #[.int .i64 (f 0).2] 2) (alloc_block (.cells #[] 2) (heap_alloc_new w (pxB (.slice (some ⟨b, off, none⟩) n cap) l e d)))
  have c1 : ((w.alloc (pxB (.slice (some ⟨b, off, none⟩) n cap) l e d)).alloc (.cells #[] 2)).cell? ⟨b, off + 1, none⟩ = some (.int .i64 (f 0).2) :=
    (k1.cell (p := ⟨b, off + 1, none⟩) hl).trans (by simpa using (hc 0 h0).2)
  have hX := alloc_block (.cells #[] 2) (heap_alloc_new w (pxB (.slice (some ⟨b, off, none⟩) n cap) l e d))
  obtain ⟨x0, x1, x2, x3, _, _, _, _⟩ := four hX
  have hd : decide (0 ≤ e) = true := by simpa using he
  have hp : (0 : Int) < (n : Int) := by omega
  have hpd : decide (0 < n) = true := by simpa using h0
  go_enter Try.func49, Try.ntmps49
  go_wp2_with (first
    | (at_builtin
       refine wpList_append_int rfl (.tmp 9) (.tmp 15) rfl (w.heap.size + 1) _ 0 (fun _ => 0) rfl ho.out _ (f 0).2 rfl hS.out (by omega) hB1 ?_
       intro v' w' hown hg hat
       have hX3 : w'.heap[w.heap.size]? = some (pxB (.slice (some ⟨b, off, none⟩) n cap) l e d) := g_block (g := w.heap.size + 1) hg hX2 (by omega)
       have hbw := b_grown (g := w.heap.size + 1) hg (Nat.le_refl _) hB1
       have hbw0 := b_grown (g := w.heap.size + 1) hg (Nat.le_succ _) (Nat.le_of_succ_le hB1)
       obtain ⟨z0, z1, z2, z3, _, _, _, _⟩ := four hX3
       have hOI := owni_of_row hown
       obtain ⟨a2, p2, hv2⟩ := hOI.row.form
       subst hv2
       have k3 := k2.trans hbw0
       have ho2 := Lib.hid (hown.alloc (.cells #[.int .i64 e] 2))
       have hS2 := Lib.hid (int_new (w := w') e rfl)
       have hB2 := Nat.le_trans hB1 (Nat.le_trans hbw.size (Nat.le_of_lt (show w'.heap.size < (w'.alloc (.cells #[.int .i64 e] 2)).heap.size by simp)))
       have k4 := k3.alloc k3.size (.cells #[.int .i64 e] 2)
       clear hown hat hg hbw hbw0 hX3 x0 x1 x2 x3 c1 ho hS hX hX2 hc k0 k1 k2 hB1)
    | (at_builtin
       refine wpList_append_int rfl (.tmp 20) (.tmp 23) rfl (w.heap.size + 1) _ 1 _ rfl ho2.out _ e rfl hS2.out (by omega) hB2 ?_
       intro v4 w4 hown4 hg4 hat4
       have hO4 := (owni_of_row hown4).row
       obtain ⟨a4, p4, hv4⟩ := hO4.form
       subst hv4
       have k5 : Below w.heap.size w w4 := by
         rcases hOI with ⟨hh, _⟩ | ⟨g, cg, eg, hgo⟩
         · omega
         · injection eg with e1 e2 e3
           subst e1
           exact k4.trans (b_grown (g := g) hg4 (Nat.le_of_succ_le hgo.1) (Nat.le_of_succ_le hB2))
       clear hown4 hg4 hat4 ho2 hS2 k4 k3 hOI))
  go_at_call 89; refine (firstOf_some (by omega) (by omega) hO4).mono ?_; rintro x w5 ⟨rfl, hb⟩
  have k6 := k5.trans (hb.mono k5.size)
  go_wp2
  go_ret
  refine ⟨ret_i64 ?_, k6⟩
  show (if e < (f 0).2 then e else (f 0).2) = minI (f 0).2 e
  unfold minI
  split <;> split <;> omega

theorem pxWake_any {v : Value} {n : Nat} {f : Slots} (l e d : Int) {w : World} (hn : n ≤ 1048576) (h : RowAt w v n f) :
    Calls Try.prog 49 #[pxV v l e d] w fun x w' => x = .returned (.int .i64 (wakeI f n e)) ∧ Below w.heap.size w w' := by
  rcases Nat.eq_zero_or_pos n with rfl | h0
  · rw [show wakeI f 0 e = maxI e (-1) from rfl]
    by_cases he : e < 0
    · rw [show maxI e (-1) = -1 by unfold maxI; split <;> omega]
      exact pxWake_none l e d he h.form
    · rw [show maxI e (-1) = e by unfold maxI; rw [if_pos (by omega)]]
      exact pxWake_early l e d (by omega) h.form
  · by_cases he : e < 0
    · rw [show wakeI f n e = (f 0).2 by rw [wakeI, if_neg (by omega), if_pos he]]
      exact pxWake_top l e d he h0 hn h
    · rw [show wakeI f n e = minI (f 0).2 e by rw [wakeI, if_neg (by omega), if_neg he]]
      exact pxWake_both l e d (by omega) h0 hn h

set_option maxRecDepth 100000 in
set_option maxHeartbeats 1000000 in
theorem imWakeOf_any : AsksW 13 := by
  intro v n f l e d w hn h
  have k0 := (Below.refl w.heap.size w).alloc (Nat.le_refl _) (.cells #[v, .int .i64 l, .int .i64 e, .int .i64 d] 28)
  have HR := Lib.hid (h.below k0)
  obtain ⟨va, vc, hv⟩ := h.form
  have hform : ∃ a cap, v = .slice a n cap := h.form
  clear h
  subst hv
  go_enter Try.func13, Try.ntmps13
  go_wp2_with fail
  go_at_call 48; refine (processorOf_any _ _ _ hform).mono ?_; rintro x w2 ⟨rfl, hb⟩
  go_wp2_with fail
  go_at_call 49; refine (pxWake_any _ _ _ hn (HR.out.below hb)).mono ?_; rintro x w3 ⟨rfl, hb2⟩
  have k2 := (k0.trans (hb.mono k0.size))
  have k3 := k2.trans (hb2.mono k2.size)
  go_wp2
  go_ret
  exact ⟨rfl, k3⟩

end Go.Proofs.Ytnmaljieaflnmaa

/-
  A memory as the program works with it (chapter 5): what is due, and when to wake.
-/
namespace Go.Proofs.Ytnmaljieaflnmaa
open Go.RowKit Go.Joins
set_option linter.unusedVariables false

/-- is it due, as the program asks it? -/
def dueT (t : Tm) (c : Int) : Bool := if t.st = 1 then decide (t.wh ≤ c) else if t.st = 3 ∨ t.st = 4 then decide (t.nx ≤ c) else false
set_option maxRecDepth 100000 in
set_option maxHeartbeats 1000000 in
theorem dueBy_any (t : Tm) (c : Int) (w : World) :
    Calls Try.prog 113 #[tmV t, .int .i64 c] w fun e w' => e = .returned (.bool (dueT t c)) ∧ Below w.heap.size w w' := by
  have k0 := (Below.refl w.heap.size w).alloc (Nat.le_refl _) (.cells (tmCells t) 96)
  obtain ⟨st, wh, nx, pe, pl, ge, ki, ma⟩ := t
  by_cases h1 : st = 1
  · subst h1
    rw [show dueT ⟨1, wh, nx, pe, pl, ge, ki, ma⟩ c = decide (wh ≤ c) from rfl]
    go_enter Try.func113, Try.ntmps113
    go_wp2
    go_ret
    exact ⟨rfl, k0⟩
  by_cases h3 : st = 3
  · subst h3
    rw [show dueT ⟨3, wh, nx, pe, pl, ge, ki, ma⟩ c = decide (nx ≤ c) from rfl]
    go_enter Try.func113, Try.ntmps113
    go_wp2
    go_ret
    exact ⟨rfl, k0⟩
  by_cases h4 : st = 4
  · subst h4
    rw [show dueT ⟨4, wh, nx, pe, pl, ge, ki, ma⟩ c = decide (nx ≤ c) from rfl]
    go_enter Try.func113, Try.ntmps113
    go_wp2
    go_ret
    exact ⟨rfl, k0⟩
  rw [show dueT ⟨st, wh, nx, pe, pl, ge, ki, ma⟩ c = false by simp [dueT, h1, h3, h4]]
  have b1 : (st == 1) = false := by simpa using h1
  have b3 : (st == 3) = false := by simpa using h3
  have b4 : (st == 4) = false := by simpa using h4
  go_enter Try.func113, Try.ntmps113
  go_wp2
  go_ret
  exact ⟨rfl, k0⟩
theorem timerB_times {a b c : Int} {t : Tm} (h : timerB a b c t = true) : 0 ≤ t.wh ∧ 0 ≤ t.nx := by
  simp only [timerB, Bool.and_eq_true] at h
  exact ⟨(inB_iff.1 h.2.2.1).1, (inB_iff.1 h.2.2.2.1).1⟩
theorem dueB_T {a b c : Int} {M : Me} {i : Nat} (h : timerB a b c (M.t i) = true) : dueB M i = dueT (M.t i) M.c := by
  obtain ⟨h1, h2⟩ := timerB_times h
  unfold dueB dueT effI
  by_cases e1 : (M.t i).st = 1
  · simp [e1, h1]
  · by_cases e6 : (M.t i).st = 6
    · simp [e6]
    · by_cases e3 : (M.t i).st = 3
      · simp [e3, h2]
      · by_cases e4 : (M.t i).st = 4
        · simp [e4, h2]
        · simp [e1, e6, e3, e4]

set_option maxRecDepth 100000 in
set_option maxHeartbeats 8000000 in
theorem memDue_any {mb : Nat} {a b c : Int} {M : Me} {w : World} (hs : sizeM M ≤ 1048576) (h : SeenAt w mb a b c M) (ht : ∀ i, i < M.tn → timerB a b c (M.t i) = true) :
    Calls Try.prog 84 #[ptrV mb] w (NewInts (dueL M M.tn) w) := by
  obtain ⟨htn, hpn, hsl, hns⟩ := sizeM_le hs
  have HTR := Lib.hid ht
  obtain ⟨tv, pv, hM0, hT0, hP0⟩ := h
  obtain ⟨ta, tc, htv⟩ := hT0.form
  obtain ⟨qa, qc, hpv⟩ := hP0.form
  subst htv hpv
  have lM0 := lt_of_block hM0
  have HM0 := Lib.hid hM0
  have HT0 := Lib.hid hT0
  have ho := rowi_new (w := w) (B := w.heap.size) rfl (Nat.le_refl _)
  have k0 := (Below.refl w.heap.size w).alloc (Nat.le_refl _) (.cells #[] 2)
  obtain ⟨n0, n1, n2, n3, n4, n5⟩ := six (alloc_block (.cells #[] 2) hM0)
  clear hns hsl hM0 hT0 hP0 ht
  go_enter Try.func84, Try.ntmps84
  go_wp2_with fail
  clear n0 n1 n2 n3 n4 n5
  go_loopw [3, 12] (fun o i wr => ∃ (k : Nat), k ≤ M.tn ∧ i = .int .i64 k ∧ wr.ownsRow w.heap.size 2 1 o (dueL M k).length (cellsI (ofL (dueL M k)) (dueL M k).length) ∧ Below w.heap.size w wr) (fun _ i _ => M.tn - (intOf i).toNat)
  case atStart => exact ⟨0, Nat.zero_le _, rfl, ho, k0⟩
  case round =>
    obtain ⟨k, hk, rfl, hown, kw⟩ := hrel
    obtain ⟨oa, oc, hov⟩ := owns_form hown
    subst hov
    by_cases hlt : k < M.tn
    · rcases HT0.out with ⟨h0, _⟩ | ⟨tb, tof, tcap, ev, htb, htc⟩
      · omega
      injection ev with ev1 ev2 ev3
      subst ev1 ev3
      have i1 : (k : Int) < (M.tn : Int) := by omega
      have i0 : (0 : Int) ≤ (k : Int) := by omega
      have hlen := dueL_length M k
      obtain ⟨t0, t1, t2, t3, t4, t5, t6, t7⟩ := cells8 (w := wr) (b := tb) (o := tof + k * 8) (t := M.t k) (fun q hq => (kw.cell (p := ⟨tb, tof + k * 8 + q, none⟩) htb).trans (htc k hlt q hq))
      have ks := kw.alloc kw.size (.cells (tmCells (M.t k)) 96)
      have k1 := (Below.refl wr.heap.size wr).alloc (Nat.le_refl _) (.cells (tmCells (M.t k)) 96)
      have hSv := heap_alloc_new wr (.cells (tmCells (M.t k)) 96)
      have lS := lt_of_block hSv
      have hM := b_block ks HM0.out lM0
      have lM := lt_of_block hM
      obtain ⟨m0, m1, m2, m3, m4, m5⟩ := six hM
      obtain ⟨z0, z1, z2, z3, z4, z5, z6, z7⟩ := tm_cells hSv
      have hdt := dueB_T (HTR.out k hlt)
      clear hSv hM htc
      cases hd : dueT (M.t k) M.c
      · have hnext := Lib.hid (show dueL M (k + 1) = dueL M k by rw [dueL, hdt, hd]; rfl)
        have HD := Lib.hid hd
        clear hd hdt
        obtain ⟨C, hC⟩ : ∃ C : World → Prop, ∀ w', C w' ↔ (w'.cell? ⟨wr.heap.size, 0, none⟩ = some (.int .i64 (M.t k).st) ∧ w'.cell? ⟨wr.heap.size, 1, none⟩ = some (.int .i64 (M.t k).wh) ∧ w'.cell? ⟨wr.heap.size, 2, none⟩ = some (.int .i64 (M.t k).nx) ∧ w'.cell? ⟨wr.heap.size, 3, none⟩ = some (.int .i64 (M.t k).pe) ∧ w'.cell? ⟨wr.heap.size, 4, none⟩ = some (.int .i64 (M.t k).pl) ∧ w'.cell? ⟨wr.heap.size, 5, none⟩ = some (.int .i64 (M.t k).ge) ∧ w'.cell? ⟨wr.heap.size, 6, none⟩ = some (.int .i64 (M.t k).ki) ∧ w'.cell? ⟨wr.heap.size, 7, none⟩ = some (.int .i64 (M.t k).ma) ∧ w'.cell? ⟨mb, 3, none⟩ = some (.int .i64 M.c) ∧ Below ((wr.alloc (.cells (tmCells (M.t k)) 96))).heap.size ((wr.alloc (.cells (tmCells (M.t k)) 96))) w') := ⟨_, fun _ => Iff.rfl⟩
        have HCin := Lib.hid (show ∀ w', Below ((wr.alloc (.cells (tmCells (M.t k)) 96))).heap.size ((wr.alloc (.cells (tmCells (M.t k)) 96))) w' → C w' from fun w' kd => (hC w').2 ⟨(kd.cell (p := ⟨wr.heap.size, 0, none⟩) lS).trans z0, (kd.cell (p := ⟨wr.heap.size, 1, none⟩) lS).trans z1, (kd.cell (p := ⟨wr.heap.size, 2, none⟩) lS).trans z2, (kd.cell (p := ⟨wr.heap.size, 3, none⟩) lS).trans z3, (kd.cell (p := ⟨wr.heap.size, 4, none⟩) lS).trans z4, (kd.cell (p := ⟨wr.heap.size, 5, none⟩) lS).trans z5, (kd.cell (p := ⟨wr.heap.size, 6, none⟩) lS).trans z6, (kd.cell (p := ⟨wr.heap.size, 7, none⟩) lS).trans z7, (kd.cell (p := ⟨mb, 3, none⟩) lM).trans m3, kd⟩)
        have HC := Lib.hid hC
        have HFn0 : ∀ W : World, Below ((wr.alloc (.cells (tmCells (M.t k)) 96))).heap.size ((wr.alloc (.cells (tmCells (M.t k)) 96))) W → Calls Try.prog 113 #[tmV (M.t k), .int .i64 M.c] W (fun e w'' => e = .returned (.bool false) ∧ Below W.heap.size W w'') := fun W hW => by have := dueBy_any (M.t k) M.c W; rw [HD.out] at this; exact this
        have HCall0 := Lib.hid (show ∀ w', C w' → Calls Try.prog 113 #[tmV (M.t k), .int .i64 M.c] w' (fun e w'' => e = .returned (.bool false) ∧ C w'') from fun w' hw' => (HFn0 w' ((HC.out w').1 hw').2.2.2.2.2.2.2.2.2).mono (fun e w'' hx => ⟨hx.1, HCin.out _ ((((HC.out w').1 hw').2.2.2.2.2.2.2.2.2).trans (hx.2.mono (((HC.out w').1 hw').2.2.2.2.2.2.2.2.2).size))⟩))
        clear hC HFn0
        go_wp2_with fail
        refine region_quietC (C := C) (by kernel_rfl) (by kernel_rfl) (HCin.out _ (Below.refl _ _).drew) ?_
        repeat (first
          | go_big_quiet_skip
          | (go_big_quiet_want; go_big_quiet_op; go_big_quiet_on)
          | (refine quiet_take (v := ?_) (by rfl) ?_ ?_
             rotate_left
             · intro w' hw'
               obtain ⟨q0, q1, q2, q3, q4, q5, q6, q7, q8, hbel⟩ := (HC.out w').1 hw'
               go_simp
               first
                 | done
                 | exact rfl
                 | exact HCall0.out w' hw'
             simp only [Act.put, List.setIfInBounds_toArray, List.set_cons_zero, List.set_cons_succ]))
        refine wpQuiet_nil ?_
        intro wq hwq
        obtain ⟨q0, q1, q2, q3, q4, q5, q6, q7, q8, kd⟩ := (HC.out wq).1 hwq
        clear hwq HCall0 HC HCin
        have kn := ks.trans (kd.mono ks.size)
        have hown2 := owns_below hown (k1.trans (kd.mono k1.size))
        go_wp2
        exact ⟨⟨k + 1, by omega, by go_num, by rw [hnext.out]; exact hown2, kn⟩, by simp only [intOf]; omega⟩
      · have hnext := Lib.hid (show dueL M (k + 1) = dueL M k ++ [(k : Int)] by rw [dueL, hdt, hd]; rfl)
        have HD := Lib.hid hd
        clear hd hdt
        obtain ⟨C, hC⟩ : ∃ C : World → Prop, ∀ w', C w' ↔ (w'.cell? ⟨wr.heap.size, 0, none⟩ = some (.int .i64 (M.t k).st) ∧ w'.cell? ⟨wr.heap.size, 1, none⟩ = some (.int .i64 (M.t k).wh) ∧ w'.cell? ⟨wr.heap.size, 2, none⟩ = some (.int .i64 (M.t k).nx) ∧ w'.cell? ⟨wr.heap.size, 3, none⟩ = some (.int .i64 (M.t k).pe) ∧ w'.cell? ⟨wr.heap.size, 4, none⟩ = some (.int .i64 (M.t k).pl) ∧ w'.cell? ⟨wr.heap.size, 5, none⟩ = some (.int .i64 (M.t k).ge) ∧ w'.cell? ⟨wr.heap.size, 6, none⟩ = some (.int .i64 (M.t k).ki) ∧ w'.cell? ⟨wr.heap.size, 7, none⟩ = some (.int .i64 (M.t k).ma) ∧ w'.cell? ⟨mb, 3, none⟩ = some (.int .i64 M.c) ∧ Below ((wr.alloc (.cells (tmCells (M.t k)) 96))).heap.size ((wr.alloc (.cells (tmCells (M.t k)) 96))) w') := ⟨_, fun _ => Iff.rfl⟩
        have HCin := Lib.hid (show ∀ w', Below ((wr.alloc (.cells (tmCells (M.t k)) 96))).heap.size ((wr.alloc (.cells (tmCells (M.t k)) 96))) w' → C w' from fun w' kd => (hC w').2 ⟨(kd.cell (p := ⟨wr.heap.size, 0, none⟩) lS).trans z0, (kd.cell (p := ⟨wr.heap.size, 1, none⟩) lS).trans z1, (kd.cell (p := ⟨wr.heap.size, 2, none⟩) lS).trans z2, (kd.cell (p := ⟨wr.heap.size, 3, none⟩) lS).trans z3, (kd.cell (p := ⟨wr.heap.size, 4, none⟩) lS).trans z4, (kd.cell (p := ⟨wr.heap.size, 5, none⟩) lS).trans z5, (kd.cell (p := ⟨wr.heap.size, 6, none⟩) lS).trans z6, (kd.cell (p := ⟨wr.heap.size, 7, none⟩) lS).trans z7, (kd.cell (p := ⟨mb, 3, none⟩) lM).trans m3, kd⟩)
        have HC := Lib.hid hC
        have HFn0 : ∀ W : World, Below ((wr.alloc (.cells (tmCells (M.t k)) 96))).heap.size ((wr.alloc (.cells (tmCells (M.t k)) 96))) W → Calls Try.prog 113 #[tmV (M.t k), .int .i64 M.c] W (fun e w'' => e = .returned (.bool true) ∧ Below W.heap.size W w'') := fun W hW => by have := dueBy_any (M.t k) M.c W; rw [HD.out] at this; exact this
        have HCall0 := Lib.hid (show ∀ w', C w' → Calls Try.prog 113 #[tmV (M.t k), .int .i64 M.c] w' (fun e w'' => e = .returned (.bool true) ∧ C w'') from fun w' hw' => (HFn0 w' ((HC.out w').1 hw').2.2.2.2.2.2.2.2.2).mono (fun e w'' hx => ⟨hx.1, HCin.out _ ((((HC.out w').1 hw').2.2.2.2.2.2.2.2.2).trans (hx.2.mono (((HC.out w').1 hw').2.2.2.2.2.2.2.2.2).size))⟩))
        clear hC HFn0
        go_wp2_with fail
        refine region_quietC (C := C) (by kernel_rfl) (by kernel_rfl) (HCin.out _ (Below.refl _ _).drew) ?_
        repeat (first
          | go_big_quiet_skip
          | (go_big_quiet_want; go_big_quiet_op; go_big_quiet_on)
          | (refine quiet_take (v := ?_) (by rfl) ?_ ?_
             rotate_left
             · intro w' hw'
               obtain ⟨q0, q1, q2, q3, q4, q5, q6, q7, q8, hbel⟩ := (HC.out w').1 hw'
               go_simp
               first
                 | done
                 | exact rfl
                 | exact HCall0.out w' hw'
             simp only [Act.put, List.setIfInBounds_toArray, List.set_cons_zero, List.set_cons_succ]))
        refine wpQuiet_nil ?_
        intro wq hwq
        obtain ⟨q0, q1, q2, q3, q4, q5, q6, q7, q8, kd⟩ := (HC.out wq).1 hwq
        clear hwq HCall0 HC HCin
        have kn := ks.trans (kd.mono ks.size)
        have hown2 := owns_below hown (k1.trans (kd.mono k1.size))
        have ho2 := Lib.hid (hown2.alloc (.cells #[.int .i64 (k : Int)] 2))
        have hS := Lib.hid (int_new (w := wq) (k : Int) rfl)
        have hB2 : w.heap.size ≤ (wq.alloc (.cells #[.int .i64 (k : Int)] 2)).heap.size := by have := kn.size; simp; omega
        have ka := kn.alloc kn.size (.cells #[.int .i64 (k : Int)] 2)
        have hge := owns_ge hown2
        clear hown k1 ks kd hown2
        go_wp2_with (first
          | (at_builtin
             refine wpList_append_int rfl (.tmp 23) (.tmp 25) rfl w.heap.size _ (dueL M k).length (ofL (dueL M k)) rfl ho2.out _ (k : Int) rfl hS.out (by omega) hB2 ?_
             intro v' w' hown' hg' hat'
             have hbw := b_grownV hg' hge hB2
             have kf := ka.trans hbw
             rw [cellsI_add] at hown'))
        exact ⟨⟨k + 1, by omega, by go_num, by rw [hnext.out]; simpa using hown', kf⟩, by simp only [intOf]; omega⟩
    · have hkn : k = M.tn := by omega
      subst hkn
      have i1 : ¬ (M.tn : Int) < (M.tn : Int) := by omega
      have hO := owni_of_row hown
      go_wp2
      go_ret
      exact ⟨_, rfl, hO, kw⟩

set_option maxRecDepth 100000 in
set_option maxHeartbeats 4000000 in
theorem imDueIn_any : AsksML 33 dueInL := by
  intro a b c tv pv M w hs h
  obtain ⟨va, vc, qa, qc, rfl, rfl⟩ := h.form
  have k0 := ((Below.refl w.heap.size w).alloc (Nat.le_refl _) (.cells #[.int .i64 a, .int .i64 b, .int .i64 c] 25)).alloc (by simp) (memO M.c (.slice va M.tn vc) (.slice qa M.pn qc) 54)
  have HM := Lib.hid (h.below k0)
  clear h
  cases hok : memOkB a b c M
  · rw [show dueInL a b c M = [] by rw [dueInL, hok]; rfl]
    have HOK := Lib.hid hok
    clear hok
    go_enter Try.func33, Try.ntmps33
    go_wp2_with fail
    go_at_call 69; refine (seen_any a b c hs HM.out).mono ?_; rintro x w1 ⟨mb, rfl, hS, hb⟩
    have k1 := k0.trans (hb.mono k0.size)
    go_wp2_with fail
    go_at_call 70; refine (memRight_any hs hS).mono ?_; rintro x w2 ⟨rfl, hb2⟩; rw [HOK.out]
    have k2 := k1.trans (hb2.mono k1.size)
    have hO := owni_of_row (rowi_new (w := w2) (B := w.heap.size) rfl k2.size)
    have k3 := k2.alloc k2.size (.cells #[] 2)
    clear hS hb hb2
    go_wp2
    go_ret
    exact ⟨_, rfl, hO.congr0, k3⟩
  · rw [show dueInL a b c M = dueL M M.tn by rw [dueInL, hok]; rfl]
    have HOK := Lib.hid hok
    have HT := Lib.hid (show ∀ i, i < M.tn → timerB a b c (M.t i) = true by rw [memOk_split] at hok; simp only [Bool.and_eq_true] at hok; exact allB_at hok.2.1.1)
    clear hok
    go_enter Try.func33, Try.ntmps33
    go_wp2_with fail
    go_at_call 69; refine (seen_any a b c hs HM.out).mono ?_; rintro x w1 ⟨mb, rfl, hS, hb⟩
    have k1 := k0.trans (hb.mono k0.size)
    go_wp2_with fail
    go_at_call 70; refine (memRight_any hs hS).mono ?_; rintro x w2 ⟨rfl, hb2⟩; rw [HOK.out]
    have k2 := k1.trans (hb2.mono k1.size)
    have HS := Lib.hid (hS.below hb2)
    clear hS hb hb2
    go_wp2_with fail
    go_at_call 84; refine (memDue_any hs HS.out HT.out).mono ?_; rintro x w3 ⟨v, rfl, hO, hb3⟩
    have hO2 := hO.mono k2.size
    go_wp2
    go_ret
    exact ⟨_, rfl, hO2, k2.trans (hb3.mono k2.size)⟩

/-! ### when to wake -/
theorem leastI_congr {f g : Ints} : ∀ n, (∀ i, i ≤ n → f i = g i) → leastI f n = leastI g n
  | 0, e => e 0 (Nat.le_refl _)
  | n + 1, e => by rw [leastI, leastI, leastI_congr n (fun i hi => e i (by omega)), e (n + 1) (Nat.le_refl _)]
theorem leastI_put (f : Ints) (x : Int) : ∀ n, leastI (putI f n x) n = if n = 0 then x else if x < leastI f (n - 1) then x else leastI f (n - 1)
  | 0 => by rw [leastI, putI, if_pos rfl, if_pos rfl]
  | n + 1 => by
    have e : leastI (putI f (n + 1) x) n = leastI f n := leastI_congr n (fun i hi => by rw [putI, if_neg (by omega)])
    rw [leastI, e, putI, if_pos rfl, if_neg (show ¬ n + 1 = 0 by omega), Nat.add_sub_cancel]
/-- what the times so far tell -/
def WakeSo (P : Pcs) (k n : Nat) (f : Ints) : Prop := (n = 0 ∧ bestW P k = -1) ∨ (0 < n ∧ leastI f (n - 1) = bestW P k ∧ 0 ≤ bestW P k)
theorem wakeSo_skip {P : Pcs} {k n : Nat} {f : Ints} (h : WakeSo P k n f) (e : wakeI (P k).f (P k).n (P k).e = -1) : WakeSo P (k + 1) n f := by
  have : bestW P (k + 1) = bestW P k := by rw [bestW, e, stepW, if_neg (by omega)]
  unfold WakeSo
  rw [this]
  exact h
theorem wakeSo_add {P : Pcs} {k n : Nat} {f : Ints} (h : WakeSo P k n f) {x : Int} (e : wakeI (P k).f (P k).n (P k).e = x) (h0 : 0 ≤ x) : WakeSo P (k + 1) (n + 1) (putI f n x) := by
  refine .inr ⟨by omega, ?_⟩
  rw [Nat.add_sub_cancel, leastI_put, bestW, e, stepW]
  rcases h with ⟨h1, h2⟩ | ⟨h1, h2, h3⟩
  · rw [h2, if_pos h1, if_pos ⟨h0, .inl (by omega)⟩]; exact ⟨rfl, h0⟩
  · rw [if_neg (by omega), h2]
    by_cases hx : x < bestW P k
    · rw [if_pos hx, if_pos ⟨h0, .inr hx⟩]; exact ⟨rfl, h0⟩
    · rw [if_neg hx, if_neg (by omega)]; exact ⟨rfl, h3⟩
theorem wake_times {a b c : Int} {M : Me} (h : memOkB a b c M = true) : ∀ k, k < M.pn → wakeI (M.p k).f (M.p k).n (M.p k).e = -1 ∨ 0 ≤ wakeI (M.p k).f (M.p k).n (M.p k).e := by
  rw [memOk_split] at h
  simp only [Bool.and_eq_true] at h
  intro k hk
  have hp := allB_at h.2.1.2 k hk
  have ha := allB_at h.2.2.1 k hk
  have he : (M.p k).e = -1 ∨ 0 ≤ (M.p k).e := by
    unfold procX rightB at hp
    rw [Bool.and_eq_true, Bool.and_eq_true, Bool.or_eq_true] at hp
    rcases hp.1.2 with h | h
    · exact .inl (by simpa using h)
    · exact .inr (inB_iff.1 h).1
  unfold wakeI
  by_cases hn : (M.p k).n = 0
  · rw [if_pos hn]; unfold maxI; split <;> omega
  · rw [if_neg hn]
    have hkey : 0 ≤ ((M.p k).f 0).2 := by
      unfold agreeX at ha
      rw [Bool.and_eq_true] at ha
      have := allB_at ha.1 0 (by omega)
      unfold slotOkB at this
      simp only [Bool.and_eq_true, beq_iff_eq] at this
      obtain ⟨g1, _, g3⟩ := this
      have hi := hasT_iff.1 g1
      have := timerB_times (allB_at h.2.1.1 ((M.p k).f 0).1.toNat (by omega))
      omega
    split
    · exact .inr hkey
    · refine .inr ?_; unfold minI; split <;> omega

set_option maxRecDepth 100000 in
set_option maxHeartbeats 8000000 in
theorem memWake_any {mb : Nat} {a b c : Int} {M : Me} {w : World} (hs : sizeM M ≤ 1048576) (h : SeenAt w mb a b c M) (hk : ∀ k, k < M.pn → wakeI (M.p k).f (M.p k).n (M.p k).e = -1 ∨ 0 ≤ wakeI (M.p k).f (M.p k).n (M.p k).e) :
    Calls Try.prog 85 #[ptrV mb] w fun e w' => e = .returned (.int .i64 (bestW M.p M.pn)) ∧ Below w.heap.size w w' := by
  obtain ⟨htn, hpn, hsl, hns⟩ := sizeM_le hs
  have HK := Lib.hid hk
  have HNS := Lib.hid hns
  obtain ⟨tv, pv, hM0, hT0, hP0⟩ := h
  obtain ⟨ta, tc, htv⟩ := hT0.form
  obtain ⟨qa, qc, hpv⟩ := hP0.form
  subst htv hpv
  have HP0 := Lib.hid hP0
  have ho := rowi_new (w := w) (B := w.heap.size) rfl (Nat.le_refl _)
  have k0 := (Below.refl w.heap.size w).alloc (Nat.le_refl _) (.cells #[] 2)
  obtain ⟨n0, n1, n2, n3, n4, n5⟩ := six (alloc_block (.cells #[] 2) hM0)
  clear hns hsl hM0 hT0 hP0 hk
  go_enter Try.func85, Try.ntmps85
  go_wp2_with fail
  clear n0 n1 n2 n3 n4 n5
  go_loopw [3, 13] (fun o i wr => ∃ (k n : Nat) (f : Ints), k ≤ M.pn ∧ n ≤ k ∧ i = .int .i64 k ∧ wr.ownsRow w.heap.size 2 1 o n (cellsI f n) ∧ Hid (WakeSo M.p k n f) ∧ Below w.heap.size w wr) (fun _ i _ => M.pn - (intOf i).toNat)
  case atStart => exact ⟨0, 0, _, Nat.zero_le _, Nat.le_refl _, rfl, ho, Lib.hid (.inl ⟨rfl, rfl⟩), k0⟩
  case round =>
    obtain ⟨k, n, f, hk, hnk0, rfl, hown, hso, kw⟩ := hrel
    obtain ⟨oa, oc, hov⟩ := owns_form hown
    subst hov
    by_cases hlt : k < M.pn
    · rcases HP0.out with ⟨h0, _⟩ | ⟨pb, po, pcap, ev, hpb, hpc⟩
      · omega
      injection ev with ev1 ev2 ev3
      subst ev1 ev3
      have i1 : (k : Int) < (M.pn : Int) := by omega
      have i0 : (0 : Int) ≤ (k : Int) := by omega
      have hnk := HNS.out k hlt
      obtain ⟨xa, xc, p0, p1, p2, p3, hrow⟩ := hpc k hlt
      replace p0 := (kw.cell (p := ⟨pb, po + k * 4, none⟩) hpb).trans p0
      replace p1 := (kw.cell (p := ⟨pb, po + k * 4 + 1, none⟩) hpb).trans p1
      replace p2 := (kw.cell (p := ⟨pb, po + k * 4 + 2, none⟩) hpb).trans p2
      replace p3 := (kw.cell (p := ⟨pb, po + k * 4 + 3, none⟩) hpb).trans p3
      have ks := kw.alloc kw.size (pxB (.slice xa (M.p k).n xc) (M.p k).l (M.p k).e (M.p k).d)
      have k1 := (Below.refl wr.heap.size wr).alloc (Nat.le_refl _) (pxB (.slice xa (M.p k).n xc) (M.p k).l (M.p k).e (M.p k).d)
      have hX := heap_alloc_new wr (pxB (.slice xa (M.p k).n xc) (M.p k).l (M.p k).e (M.p k).d)
      have lX := lt_of_block hX
      obtain ⟨x0, x1, x2, x3, _, _, _, _⟩ := four hX
      have HR := Lib.hid (hrow.below ks)
      have hwk := HK.out k hlt
      obtain ⟨y, hy⟩ : ∃ y : Int, wakeI (M.p k).f (M.p k).n (M.p k).e = y := ⟨_, rfl⟩
      have HY := Lib.hid hy
      rw [hy] at hwk
      clear hX hpc hrow hy
      by_cases hy1 : y = -1
      · have hnext := Lib.hid (wakeSo_skip hso.out (HY.out.trans hy1))
        have b1 : (y != -1) = false := by rw [hy1]; rfl
        clear hy1 hwk hso
        go_wp2_with fail
        go_at_call 49; refine (pxWake_any _ _ _ hnk HR.out).mono ?_; rintro x w1 ⟨rfl, hb⟩; rw [HY.out]
        have kn := ks.trans (hb.mono ks.size)
        have hown2 := owns_below hown (k1.trans (hb.mono k1.size))
        clear hb p0 p1 p2 p3 x0 x1 x2 x3
        go_wp2
        exact ⟨⟨k + 1, n, f, by omega, by omega, by go_num, hown2, hnext, kn⟩, by simp only [intOf]; omega⟩
      · have hy0 : 0 ≤ y := by omega
        have hnext := Lib.hid (wakeSo_add hso.out HY.out hy0)
        have b1 : (y != -1) = true := by rw [bne, beq_eq_false_iff_ne.2 hy1]; rfl
        clear hy1 hwk hso
        go_wp2_with fail
        go_at_call 49; refine (pxWake_any _ _ _ hnk HR.out).mono ?_; rintro x w1 ⟨rfl, hb⟩; rw [HY.out]
        have kn := ks.trans (hb.mono ks.size)
        have hown2 := owns_below hown (k1.trans (hb.mono k1.size))
        have ho2 := Lib.hid (hown2.alloc (.cells #[.int .i64 y] 2))
        have hS := Lib.hid (int_new (w := w1) y rfl)
        have hB2 : w.heap.size ≤ (w1.alloc (.cells #[.int .i64 y] 2)).heap.size := by have := kn.size; simp; omega
        have ka := kn.alloc kn.size (.cells #[.int .i64 y] 2)
        have hge := owns_ge hown2
        clear hown k1 ks hb hown2 p0 p1 p2 p3 x0 x1 x2 x3
        go_wp2_with (first
          | (at_builtin
             refine wpList_append_int rfl (.tmp 21) (.tmp 23) rfl w.heap.size _ n f rfl ho2.out _ y rfl hS.out (by omega) hB2 ?_
             intro v' w' hown' hg' hat'
             have hbw := b_grownV hg' hge hB2
             have kf := ka.trans hbw))
        exact ⟨⟨k + 1, n + 1, _, by omega, by omega, by go_num, hown', hnext, kf⟩, by simp only [intOf]; omega⟩
    · have hkn : k = M.pn := by omega
      subst hkn
      have i1 : ¬ (M.pn : Int) < (M.pn : Int) := by omega
      have hO := (owni_of_row hown).row
      go_wp2_with fail
      go_at_call 89; refine (firstOf_any (by omega) hO).mono ?_; rintro x w1 ⟨rfl, hb⟩
      have hval : (if n = 0 then (-1 : Int) else leastI f (n - 1)) = bestW M.p M.pn := by
        rcases hso.out with ⟨h1, h2⟩ | ⟨h1, h2, h3⟩
        · rw [if_pos h1, h2]
        · rw [if_neg (by omega), h2]
      rw [hval]
      clear hval
      go_wp2
      go_ret
      exact ⟨rfl, kw.trans (hb.mono kw.size)⟩

set_option maxRecDepth 100000 in
set_option maxHeartbeats 4000000 in
theorem imWakeAll_any : AsksMI 38 wakeAllI := by
  intro a b c tv pv M w hs h
  obtain ⟨va, vc, qa, qc, rfl, rfl⟩ := h.form
  have k0 := ((Below.refl w.heap.size w).alloc (Nat.le_refl _) (.cells #[.int .i64 a, .int .i64 b, .int .i64 c] 25)).alloc (by simp) (memO M.c (.slice va M.tn vc) (.slice qa M.pn qc) 54)
  have HM := Lib.hid (h.below k0)
  clear h
  cases hok : memOkB a b c M
  · rw [show wakeAllI a b c M = -1 by unfold wakeAllI; rw [hok]; rfl]
    have HOK := Lib.hid hok
    clear hok
    go_enter Try.func38, Try.ntmps38
    go_wp2_with fail
    go_at_call 69; refine (seen_any a b c hs HM.out).mono ?_; rintro x w1 ⟨mb, rfl, hS, hb⟩
    have k1 := k0.trans (hb.mono k0.size)
    go_wp2_with fail
    go_at_call 70; refine (memRight_any hs hS).mono ?_; rintro x w2 ⟨rfl, hb2⟩; rw [HOK.out]
    have k2 := k1.trans (hb2.mono k1.size)
    clear hS hb hb2
    go_wp2
    go_ret
    exact ⟨rfl, k2⟩
  · rw [show wakeAllI a b c M = bestW M.p M.pn by unfold wakeAllI; rw [hok]; rfl]
    have HOK := Lib.hid hok
    have HK := Lib.hid (wake_times hok)
    clear hok
    go_enter Try.func38, Try.ntmps38
    go_wp2_with fail
    go_at_call 69; refine (seen_any a b c hs HM.out).mono ?_; rintro x w1 ⟨mb, rfl, hS, hb⟩
    have k1 := k0.trans (hb.mono k0.size)
    go_wp2_with fail
    go_at_call 70; refine (memRight_any hs hS).mono ?_; rintro x w2 ⟨rfl, hb2⟩; rw [HOK.out]
    have k2 := k1.trans (hb2.mono k1.size)
    have HS := Lib.hid (hS.below hb2)
    clear hS hb hb2
    go_wp2_with fail
    go_at_call 85; refine (memWake_any hs HS.out HK.out).mono ?_; rintro x w3 ⟨rfl, hb3⟩
    go_wp2
    go_ret
    exact ⟨rfl, k2.trans (hb3.mono k2.size)⟩

end Go.Proofs.Ytnmaljieaflnmaa
