/-
  FnExactRearmed, told what the program answers.
-/
import Derived.Test.YtonpbmeekgdilaaGreatL12
import Derived.Test.YtonpbmeekgdilaaGreatL13
namespace Go.Proofs.YtonpbmeekgdilaaGreat
open Go.RowKit Go.Joins Go.ChangeShapes Go.WideShapes Go.ChangeAt Go.Deep
set_option linter.unusedVariables false

set_option maxRecDepth 100000 in
set_option maxHeartbeats 8000000 in
theorem rearmed_small {N : Me} {q : Bool} (a b c d : Int) {tv pv : Value} {M : Me} {w : World} (hs : sizeM M ≤ 1048576) (hg : sizeM N ≤ 1048576) (HS : RowKit.Hid (∀ (tv pv : Value) (w : World), MemAt w tv pv M → Calls Tryz.prog 16 #[.agg #[.int .i64 a, .int .i64 b, .int .i64 c], meV M.c tv pv, .int .i64 d] w (NewMeB N q w)))
    (HI : RowKit.Hid (∀ (tv pv : Value) (w : World), MemAt w tv pv M → Calls Tryz.prog 17 #[.agg #[.int .i64 a, .int .i64 b, .int .i64 c], meV M.c tv pv, .int .i64 d] w (NewMeB N q w))) (h : MemAt w tv pv M) :
    Calls Tryz.prog 5 #[.agg #[.int .i64 a, .int .i64 b, .int .i64 c], meV M.c tv pv, .int .i64 d] w fun x w' => x = .returned (.bool true) ∧ Below w.heap.size w w' := by
  obtain ⟨va, vc, qa, qc, rfl, rfl⟩ := h.form
  have k0 := ((Below.refl w.heap.size w).alloc (Nat.le_refl _) (.cells #[.int .i64 a, .int .i64 b, .int .i64 c] 23)).alloc (by simp) (memO M.c (.slice va M.tn vc) (.slice qa M.pn qc) 27)
  have RV := Lib.hid (h.below k0)
  have hX := heap_alloc_new (w.alloc (.cells #[.int .i64 a, .int .i64 b, .int .i64 c] 23)) (memO M.c (.slice va M.tn vc) (.slice qa M.pn qc) 27)
  rw [show (w.alloc (.cells #[.int .i64 a, .int .i64 b, .int .i64 c] 23)).heap.size = w.heap.size + 1 by simp] at hX
  have hPx := alloc_block (memO M.c (.slice va M.tn vc) (.slice qa M.pn qc) 27) (heap_alloc_new w (.cells #[.int .i64 a, .int .i64 b, .int .i64 c] 23))
  have HSZ := Lib.hid (szMem_ok (h.below k0) 1048576 (by decide) (by omega))
  obtain ⟨z, hze⟩ : ∃ z : Int, z = 1048576 - ((sizeM M : Nat) : Int) := ⟨_, rfl⟩
  have hz : decide (z < 0) = false := by simp; omega
  have HZ := Lib.hid hze
  clear h hze
  go_enter Tryz.func5, Tryz.ntmps5
  go_wp2_with fail
  go_at_call 6; refine HSZ.out.mono ?_; rw [← HZ.out]; rintro x W2 ⟨rfl, hb⟩
  have HP := Lib.hid (b_block hb hPx (lt_of_block hPx))
  have HX := Lib.hid (b_block hb hX (lt_of_block hX))
  have HA := Lib.hid (RV.out.below hb)
  have lP := lt_of_block HP.out
  have lX := lt_of_block HX.out
  have kw := k0.trans (hb.mono k0.size)
  clear hb hPx hX k0
  go_upto_region 5 with fail
  go_cut [8, 9] (fun v8 v9 wx => ∃ (b8 : Nat) (t8 p8 : Option Addr) (s8 r8 : Nat), v8 = .pointer (some ⟨b8, 0, none⟩) ∧ v9 = .bool q ∧ W2.heap.size ≤ b8 ∧ VarAt wx b8 N (.slice t8 N.tn s8) (.slice p8 N.pn r8) ∧ Below W2.heap.size W2 wx)
  case first =>
    obtain ⟨x0, x1, x2, _, _, _⟩ := three HX.out
    obtain ⟨y0, y1, y2, _, _, _⟩ := three HP.out
    have kk := (Below.refl W2.heap.size W2).drew
    go_region_held3 (fun w' => w'.cell? ⟨w.heap.size, 0, none⟩ = some (.int .i64 a) ∧ w'.cell? ⟨w.heap.size, 1, none⟩ = some (.int .i64 b) ∧ w'.cell? ⟨w.heap.size, 2, none⟩ = some (.int .i64 c) ∧ w'.cell? ⟨w.heap.size + 1, 0, none⟩ = some (.int .i64 M.c) ∧ w'.cell? ⟨w.heap.size + 1, 1, none⟩ = some (.slice va M.tn vc) ∧ w'.cell? ⟨w.heap.size + 1, 2, none⟩ = some (.slice qa M.pn qc))
      (first | exact ⟨y0, y1, y2, x0, x1, x2⟩ | exact ⟨(kk.cell (p := ⟨w.heap.size, 0, none⟩) lP).trans (cell_of_block HP.out 0), (kk.cell (p := ⟨w.heap.size, 1, none⟩) lP).trans (cell_of_block HP.out 1), (kk.cell (p := ⟨w.heap.size, 2, none⟩) lP).trans (cell_of_block HP.out 2), (kk.cell (p := ⟨w.heap.size + 1, 0, none⟩) lX).trans (cell_of_block HX.out 0), (kk.cell (p := ⟨w.heap.size + 1, 1, none⟩) lX).trans (cell_of_block HX.out 1), (kk.cell (p := ⟨w.heap.size + 1, 2, none⟩) lX).trans (cell_of_block HX.out 2)⟩ | exact ⟨((kk.alloc kk.size (memO 0 (.slice none 0 0) (.slice none 0 0) 32)).cell (p := ⟨w.heap.size, 0, none⟩) lP).trans (cell_of_block HP.out 0), ((kk.alloc kk.size (memO 0 (.slice none 0 0) (.slice none 0 0) 32)).cell (p := ⟨w.heap.size, 1, none⟩) lP).trans (cell_of_block HP.out 1), ((kk.alloc kk.size (memO 0 (.slice none 0 0) (.slice none 0 0) 32)).cell (p := ⟨w.heap.size, 2, none⟩) lP).trans (cell_of_block HP.out 2), ((kk.alloc kk.size (memO 0 (.slice none 0 0) (.slice none 0 0) 32)).cell (p := ⟨w.heap.size + 1, 0, none⟩) lX).trans (cell_of_block HX.out 0), ((kk.alloc kk.size (memO 0 (.slice none 0 0) (.slice none 0 0) 32)).cell (p := ⟨w.heap.size + 1, 1, none⟩) lX).trans (cell_of_block HX.out 1), ((kk.alloc kk.size (memO 0 (.slice none 0 0) (.slice none 0 0) 32)).cell (p := ⟨w.heap.size + 1, 2, none⟩) lX).trans (cell_of_block HX.out 2)⟩ | exact ⟨(k8.cell (p := ⟨w.heap.size, 0, none⟩) lP).trans (cell_of_block HP.out 0), (k8.cell (p := ⟨w.heap.size, 1, none⟩) lP).trans (cell_of_block HP.out 1), (k8.cell (p := ⟨w.heap.size, 2, none⟩) lP).trans (cell_of_block HP.out 2), (k8.cell (p := ⟨w.heap.size + 1, 0, none⟩) lX).trans (cell_of_block HX.out 0), (k8.cell (p := ⟨w.heap.size + 1, 1, none⟩) lX).trans (cell_of_block HX.out 1), (k8.cell (p := ⟨w.heap.size + 1, 2, none⟩) lX).trans (cell_of_block HX.out 2)⟩ | exact ⟨(kset.cell (p := ⟨w.heap.size, 0, none⟩) lP).trans (cell_of_block HP.out 0), (kset.cell (p := ⟨w.heap.size, 1, none⟩) lP).trans (cell_of_block HP.out 1), (kset.cell (p := ⟨w.heap.size, 2, none⟩) lP).trans (cell_of_block HP.out 2), (kset.cell (p := ⟨w.heap.size + 1, 0, none⟩) lX).trans (cell_of_block HX.out 0), (kset.cell (p := ⟨w.heap.size + 1, 1, none⟩) lX).trans (cell_of_block HX.out 1), (kset.cell (p := ⟨w.heap.size + 1, 2, none⟩) lX).trans (cell_of_block HX.out 2)⟩ | go_keep)
      (first
        | (go_at_call 8; refine (toPlan_any _ _ _ _).mono ?_; rintro x wp ⟨rfl, hb⟩; (first | (have hZb := lt_of_block hZ; replace hZ := b_block hb hZ (lt_of_block hZ); replace kk := kk.trans (hb.mono kk.size)) | (obtain ⟨hZ, hZb⟩ := b_block_lt hb (heap_alloc_new _ (memO 0 (.slice none 0 0) (.slice none 0 0) 32)); have hZl := kk.size; replace kk := (kk.alloc kk.size (memO 0 (.slice none 0 0) (.slice none 0 0) 32)).trans (hb.mono (kk.alloc kk.size (memO 0 (.slice none 0 0) (.slice none 0 0) 32)).size)) | (replace kk := kk.trans (hb.mono kk.size))); clear hb)
        | (go_at_call 9; first | (refine (toMem_any hs (HA.out.below kk)).mono ?_) | (refine (toMem_any hs (HA.out.below (kk.alloc kk.size (memO 0 (.slice none 0 0) (.slice none 0 0) 32)))).mono ?_)
           rintro x w3 ⟨u1, u2, rfl, hU1, hb⟩; (first | (have hZb := lt_of_block hZ; replace hZ := b_block hb hZ (lt_of_block hZ); replace kk := kk.trans (hb.mono kk.size)) | (obtain ⟨hZ, hZb⟩ := b_block_lt hb (heap_alloc_new _ (memO 0 (.slice none 0 0) (.slice none 0 0) 32)); have hZl := kk.size; replace kk := (kk.alloc kk.size (memO 0 (.slice none 0 0) (.slice none 0 0) 32)).trans (hb.mono (kk.alloc kk.size (memO 0 (.slice none 0 0) (.slice none 0 0) 32)).size)) | (replace kk := kk.trans (hb.mono kk.size))); clear hb)
        | (go_at_call 16; first | (refine (HS.out _ _ _ hU1.at).mono ?_) | (refine (HS.out _ _ _ (hU1.at.below ((Below.refl _ _).alloc (Nat.le_refl _) (memO 0 (.slice none 0 0) (.slice none 0 0) 32)))).mono ?_)
           rintro x w4 ⟨v8, z8, rfl, hO8, hb⟩; obtain ⟨t8, s8, p8, r8, hv8, hz8⟩ := hO8.at.form; subst hv8 hz8; (first | (have hZb := lt_of_block hZ; replace hZ := b_block hb hZ (lt_of_block hZ); replace kk := kk.trans (hb.mono kk.size)) | (obtain ⟨hZ, hZb⟩ := b_block_lt hb (heap_alloc_new _ (memO 0 (.slice none 0 0) (.slice none 0 0) 32)); have hZl := kk.size; replace kk := (kk.alloc kk.size (memO 0 (.slice none 0 0) (.slice none 0 0) 32)).trans (hb.mono (kk.alloc kk.size (memO 0 (.slice none 0 0) (.slice none 0 0) 32)).size)) | (replace kk := kk.trans (hb.mono kk.size))); (first | (obtain ⟨z0, z1, z2, zf0, zf1, zf2⟩ := three hZ; have kset := ((kk.setCell (p := ⟨_, 0, none⟩) hZl (.int .i64 N.c)).setCell (p := ⟨_, 1, none⟩) hZl (.slice t8 N.tn s8)).setCell (p := ⟨_, 2, none⟩) hZl (.slice p8 N.pn r8)) | skip); have k8 := kk.alloc kk.size (memO N.c (.slice t8 N.tn s8) (.slice p8 N.pn r8) 32); have hB8 := heap_alloc_new w4 (memO N.c (.slice t8 N.tn s8) (.slice p8 N.pn r8) 32); clear hb hU1))
    all_goals
      go_wp2_with fail
      go_meet
      first
        | exact ⟨_, _, _, _, _, rfl, rfl, hZl, ⟨block_setCell (i := 2) (block_setCell (i := 1) (block_setCell (i := 0) hZ _) _) _, (hO8.setVar hZ _ _ _).range.at (by simp)⟩, kset⟩
        | exact ⟨_, _, _, _, _, rfl, rfl, kk.size, ⟨hB8, hO8.at.below ((Below.refl _ _).alloc (Nat.le_refl _) _)⟩, k8⟩
  case rest =>
    obtain ⟨b8, t8, p8, s8, r8, rfl, rfl, l8, ⟨hB8, hM8⟩, kc⟩ := hcut
    obtain ⟨B1, hB1⟩ : ∃ B1, B1 = wc.heap.size := ⟨_, rfl⟩
    have hX6 := b_block kc HX.out lX
    have HA6 := Lib.hid (HA.out.below kc)
    obtain ⟨x0, x1, x2, _, _, _⟩ := three hX6
    go_wp2_with fail
    go_at_call 9; refine (toMem_any hs HA6.out).mono ?_; rintro x w5 ⟨u9, z9, rfl, hO9, hb⟩
    obtain ⟨t9, s9, p9, r9, hu9, hz9⟩ := hO9.at.form
    subst hu9 hz9
    clear x0 x1 x2
    -- the argument's copy, in a variable of its own
    have hs5 := hb.size
    have hB9 := heap_alloc_new w5 (memO M.c (.slice t9 M.tn s9) (.slice p9 M.pn r9) 32)
    have hO9' := hO9.inn.keep (Same.of_below ((Below.refl w5.heap.size w5).alloc (Nat.le_refl _) (memO M.c (.slice t9 M.tn s9) (.slice p9 M.pn r9) 32)) (Nat.le_refl _))
    have k9 := (hb.alloc hb.size (memO M.c (.slice t9 M.tn s9) (.slice p9 M.pn r9) 32))
    have hP7 := alloc_block (memO M.c (.slice t9 M.tn s9) (.slice p9 M.pn r9) 32) (b_block hb (b_block kc HP.out lP) (lt_of_block (b_block kc HP.out lP)))
    have hX7 := b_block k9 hX6 (lt_of_block hX6)
    have hB8' := b_block k9 hB8 (lt_of_block hB8)
    have hM8' := hM8.below k9
    have HA7 := Lib.hid (HA6.out.below k9)
    have kw7 := kw.trans ((kc.trans (k9.mono kc.size)).mono kw.size)
    have hlB : b8 < wc.heap.size := lt_of_block hB8
    have lPB := lt_of_block (b_block kc HP.out lP)
    have lXB := lt_of_block hX6
    have hM8R0 := hM8.range
    have hAR0 := HA6.out.range
    have hb89 := hb.size
    have hl89 : b8 < w5.heap.size := Nat.lt_of_lt_of_le (lt_of_block hB8) hb.size
    have hC9 : w5.heap.size < (w5.alloc (memO M.c (.slice t9 M.tn s9) (.slice p9 M.pn r9) 32)).heap.size := by simp
    clear hB8 hM8 hX6 HA6 hO9 hb
    go_upto_region 7 with fail
    generalize (w5.alloc (memO M.c (.slice t9 M.tn s9) (.slice p9 M.pn r9) 32)) = W7 at hP7 hX7 hB8' hM8' HA7 kw7 hB9 hO9' k9 hC9 ⊢
    have HP7 := Lib.hid hP7
    have HX9 := Lib.hid hB9
    have HM9 := Lib.hid (hO9'.range.at (Nat.le_of_lt hC9))
    have lP7 := lt_of_block hP7
    have lX9 := lt_of_block hB9
    go_cut [11, 12] (fun v10 v11 wx => ∃ (b10 B2 C2 : Nat) (t10 p10 : Option Addr) (s10 r10 : Nat), v10 = .pointer (some ⟨b10, 0, none⟩) ∧ v11 = .bool q ∧ W7.heap.size ≤ b10 ∧ W7.heap.size ≤ B2 ∧ (b10 < B2 ∨ C2 ≤ b10) ∧ C2 ≤ wx.heap.size ∧ wx.heap[b10]? = some (memO N.c (.slice t10 N.tn s10) (.slice p10 N.pn r10) 32) ∧ OwnMemIn wx B2 C2 (.slice t10 N.tn s10) (.slice p10 N.pn r10) N ∧ Below W7.heap.size W7 wx)
    case first =>
      obtain ⟨x0, x1, x2, _, _, _⟩ := three HX9.out
      obtain ⟨y0, y1, y2, _, _, _⟩ := three HP7.out
      have kk := (Below.refl W7.heap.size W7).drew
      go_region_held3 (fun w' => w'.cell? ⟨w.heap.size, 0, none⟩ = some (.int .i64 a) ∧ w'.cell? ⟨w.heap.size, 1, none⟩ = some (.int .i64 b) ∧ w'.cell? ⟨w.heap.size, 2, none⟩ = some (.int .i64 c) ∧ w'.cell? ⟨w5.heap.size, 0, none⟩ = some (.int .i64 M.c) ∧ w'.cell? ⟨w5.heap.size, 1, none⟩ = some (.slice t9 M.tn s9) ∧ w'.cell? ⟨w5.heap.size, 2, none⟩ = some (.slice p9 M.pn r9))
        (first | exact ⟨y0, y1, y2, x0, x1, x2⟩ | exact ⟨(kk.cell (p := ⟨w.heap.size, 0, none⟩) lP7).trans (cell_of_block HP7.out 0), (kk.cell (p := ⟨w.heap.size, 1, none⟩) lP7).trans (cell_of_block HP7.out 1), (kk.cell (p := ⟨w.heap.size, 2, none⟩) lP7).trans (cell_of_block HP7.out 2), (kk.cell (p := ⟨w5.heap.size, 0, none⟩) lX9).trans (cell_of_block HX9.out 0), (kk.cell (p := ⟨w5.heap.size, 1, none⟩) lX9).trans (cell_of_block HX9.out 1), (kk.cell (p := ⟨w5.heap.size, 2, none⟩) lX9).trans (cell_of_block HX9.out 2)⟩ | exact ⟨((kk.alloc kk.size (memO 0 (.slice none 0 0) (.slice none 0 0) 32)).cell (p := ⟨w.heap.size, 0, none⟩) lP7).trans (cell_of_block HP7.out 0), ((kk.alloc kk.size (memO 0 (.slice none 0 0) (.slice none 0 0) 32)).cell (p := ⟨w.heap.size, 1, none⟩) lP7).trans (cell_of_block HP7.out 1), ((kk.alloc kk.size (memO 0 (.slice none 0 0) (.slice none 0 0) 32)).cell (p := ⟨w.heap.size, 2, none⟩) lP7).trans (cell_of_block HP7.out 2), ((kk.alloc kk.size (memO 0 (.slice none 0 0) (.slice none 0 0) 32)).cell (p := ⟨w5.heap.size, 0, none⟩) lX9).trans (cell_of_block HX9.out 0), ((kk.alloc kk.size (memO 0 (.slice none 0 0) (.slice none 0 0) 32)).cell (p := ⟨w5.heap.size, 1, none⟩) lX9).trans (cell_of_block HX9.out 1), ((kk.alloc kk.size (memO 0 (.slice none 0 0) (.slice none 0 0) 32)).cell (p := ⟨w5.heap.size, 2, none⟩) lX9).trans (cell_of_block HX9.out 2)⟩ | exact ⟨(k8.cell (p := ⟨w.heap.size, 0, none⟩) lP7).trans (cell_of_block HP7.out 0), (k8.cell (p := ⟨w.heap.size, 1, none⟩) lP7).trans (cell_of_block HP7.out 1), (k8.cell (p := ⟨w.heap.size, 2, none⟩) lP7).trans (cell_of_block HP7.out 2), (k8.cell (p := ⟨w5.heap.size, 0, none⟩) lX9).trans (cell_of_block HX9.out 0), (k8.cell (p := ⟨w5.heap.size, 1, none⟩) lX9).trans (cell_of_block HX9.out 1), (k8.cell (p := ⟨w5.heap.size, 2, none⟩) lX9).trans (cell_of_block HX9.out 2)⟩ | exact ⟨(kset.cell (p := ⟨w.heap.size, 0, none⟩) lP7).trans (cell_of_block HP7.out 0), (kset.cell (p := ⟨w.heap.size, 1, none⟩) lP7).trans (cell_of_block HP7.out 1), (kset.cell (p := ⟨w.heap.size, 2, none⟩) lP7).trans (cell_of_block HP7.out 2), (kset.cell (p := ⟨w5.heap.size, 0, none⟩) lX9).trans (cell_of_block HX9.out 0), (kset.cell (p := ⟨w5.heap.size, 1, none⟩) lX9).trans (cell_of_block HX9.out 1), (kset.cell (p := ⟨w5.heap.size, 2, none⟩) lX9).trans (cell_of_block HX9.out 2)⟩ | go_keep)
        (first
          | (go_at_call 8; refine (toPlan_any _ _ _ _).mono ?_; rintro x wp ⟨rfl, hb⟩; (first | (have hZb := lt_of_block hZ; replace hZ := b_block hb hZ (lt_of_block hZ); replace kk := kk.trans (hb.mono kk.size)) | (obtain ⟨hZ, hZb⟩ := b_block_lt hb (heap_alloc_new _ (memO 0 (.slice none 0 0) (.slice none 0 0) 32)); have hZl := kk.size; replace kk := (kk.alloc kk.size (memO 0 (.slice none 0 0) (.slice none 0 0) 32)).trans (hb.mono (kk.alloc kk.size (memO 0 (.slice none 0 0) (.slice none 0 0) 32)).size)) | (replace kk := kk.trans (hb.mono kk.size))); clear hb)
          | (go_at_call 17; first | (refine (HI.out _ _ _ (HM9.out.below kk)).mono ?_) | (refine (HI.out _ _ _ (HM9.out.below (kk.alloc kk.size (memO 0 (.slice none 0 0) (.slice none 0 0) 32)))).mono ?_)
             rintro x w4 ⟨v8, z8, rfl, hO8, hb⟩; obtain ⟨t8, s8, p8, r8, hv8, hz8⟩ := hO8.at.form; subst hv8 hz8; have hBl := kk.size; (first | (have hZb := lt_of_block hZ; replace hZ := b_block hb hZ (lt_of_block hZ); replace kk := kk.trans (hb.mono kk.size)) | (obtain ⟨hZ, hZb⟩ := b_block_lt hb (heap_alloc_new _ (memO 0 (.slice none 0 0) (.slice none 0 0) 32)); have hZl := kk.size; replace kk := (kk.alloc kk.size (memO 0 (.slice none 0 0) (.slice none 0 0) 32)).trans (hb.mono (kk.alloc kk.size (memO 0 (.slice none 0 0) (.slice none 0 0) 32)).size)) | (replace kk := kk.trans (hb.mono kk.size))); (first | (obtain ⟨z0, z1, z2, zf0, zf1, zf2⟩ := three hZ; have kset := ((kk.setCell (p := ⟨_, 0, none⟩) hZl (.int .i64 N.c)).setCell (p := ⟨_, 1, none⟩) hZl (.slice t8 N.tn s8)).setCell (p := ⟨_, 2, none⟩) hZl (.slice p8 N.pn r8)) | skip); have k8 := kk.alloc kk.size (memO N.c (.slice t8 N.tn s8) (.slice p8 N.pn r8) 32); have hB8 := heap_alloc_new w4 (memO N.c (.slice t8 N.tn s8) (.slice p8 N.pn r8) 32); clear hb))
      all_goals
        go_wp2_with fail
        go_meet
        first
          | exact ⟨_, _, _, _, _, _, _, rfl, rfl, hZl, Nat.le_trans hBl (by simp), .inl hZb, by simp, block_setCell (i := 2) (block_setCell (i := 1) (block_setCell (i := 0) hZ _) _) _, hO8.setVar hZ _ _ _, kset⟩
          | exact ⟨_, _, _, _, _, _, _, rfl, rfl, kk.size, hBl, .inr (Nat.le_refl _), by simp, hB8, hO8.inn.keep (Same.of_below ((Below.refl _ _).alloc (Nat.le_refl _) _) (Nat.le_refl _)), k8⟩
    case rest =>
      obtain ⟨b10, B2, C2, t10, p10, s10, r10, rfl, rfl, l10, lB2, hor, lC2, hB10, hO10, kc7⟩ := hcut
      have hPa := b_block kc7 HP7.out lP7
      have hXa := b_block kc7 hX7 (lt_of_block hX7)
      have hB8a := b_block kc7 hB8' (lt_of_block hB8')
      have hB9a := b_block kc7 HX9.out lX9
      have hO9a := hO9'.keep (Same.of_below kc7 (Nat.le_of_lt hC9))
      have hM8a := (hM8R0.keep (Same.of_below k9 (Nat.le_refl _))).keep (Same.of_below kc7 k9.size)
      have hARa := (hAR0.keep (Same.of_below k9 (Nat.le_refl _))).keep (Same.of_below kc7 k9.size)
      have kwa := kw7.trans (kc7.mono kw7.size)
      have k9s := k9.size
      rw [← hB1] at hM8a hARa hO9a hlB lPB lXB hb89 k9s
      have lC1 : w5.heap.size ≤ W7.heap.size := Nat.le_of_lt hC9
      have sza := kc7.size
      clear hX7 hB8' hM8' HA7 hB9 hO9' hP7 HP7 HX9 HM9 hM8R0 hAR0 k9 kw7 kc7 kc hB1
      obtain ⟨x0, x1, x2, _, _, _⟩ := three hB10
      obtain ⟨y0, y1, y2, _, _, _⟩ := three hB8a
      go_wp2_with fail
      go_at_call 11; refine (eqMem_same hg (hO10.range.at lC2) (hM8a.at (by omega))).mono ?_; rintro x wb ⟨rfl, hb⟩
      clear x0 x1 x2 y0 y1 y2
      -- a fresh copy of the argument against the copy that the program got
      have hPb := b_block hb hPa (lt_of_block hPa); have hXb := b_block hb hXa (lt_of_block hXa); have hB8b := b_block hb hB8a (lt_of_block hB8a); have hB9b := b_block hb hB9a (lt_of_block hB9a); have hB10b := b_block hb hB10 (lt_of_block hB10)
      have hO9b := hO9a.keep (Same.of_below hb (by omega)); have hM8b := hM8a.keep (Same.of_below hb (by omega)); have hARb := hARa.keep (Same.of_below hb (by omega)); have hO10b := hO10.keep (Same.of_below hb lC2)
      have kwb := kwa.trans (hb.mono kwa.size)
      have szb := hb.size
      clear hPa hXa hB8a hB9a hB10 hO9a hM8a hARa hO10 kwa hb
      have HXb := Lib.hid hXb
      have HB9b := Lib.hid hB9b
      have lXb := lt_of_block hXb
      have l9b := lt_of_block hB9b
      obtain ⟨x0, x1, x2, _, _, _⟩ := three hXb
      obtain ⟨y0, y1, y2, _, _, _⟩ := three hB9b
      have HARb := Lib.hid (hARb.at (by omega))
      have HM9b := Lib.hid (hO9b.range.at (by omega))
      have kk := (Below.refl wb.heap.size wb).drew
      go_wp2_with fail
      go_region_held3 (fun w' => w'.cell? ⟨w.heap.size + 1, 0, none⟩ = some (.int .i64 M.c) ∧ w'.cell? ⟨w.heap.size + 1, 1, none⟩ = some (.slice va M.tn vc) ∧ w'.cell? ⟨w.heap.size + 1, 2, none⟩ = some (.slice qa M.pn qc) ∧ w'.cell? ⟨w5.heap.size, 0, none⟩ = some (.int .i64 M.c) ∧ w'.cell? ⟨w5.heap.size, 1, none⟩ = some (.slice t9 M.tn s9) ∧ w'.cell? ⟨w5.heap.size, 2, none⟩ = some (.slice p9 M.pn r9))
        (first | exact ⟨x0, x1, x2, y0, y1, y2⟩ | exact ⟨(kk.cell (p := ⟨w.heap.size + 1, 0, none⟩) lXb).trans (cell_of_block HXb.out 0), (kk.cell (p := ⟨w.heap.size + 1, 1, none⟩) lXb).trans (cell_of_block HXb.out 1), (kk.cell (p := ⟨w.heap.size + 1, 2, none⟩) lXb).trans (cell_of_block HXb.out 2), (kk.cell (p := ⟨w5.heap.size, 0, none⟩) l9b).trans (cell_of_block HB9b.out 0), (kk.cell (p := ⟨w5.heap.size, 1, none⟩) l9b).trans (cell_of_block HB9b.out 1), (kk.cell (p := ⟨w5.heap.size, 2, none⟩) l9b).trans (cell_of_block HB9b.out 2)⟩ | go_keep)
        (first
          | (go_at_call 9; refine (toMem_any hs (HARb.out.below kk)).mono ?_; rintro x w6 ⟨u4, u5, rfl, hU4, hb⟩; replace kk := kk.trans (hb.mono kk.size); clear hb)
          | (go_at_call 11; refine (eqMem_same hs (HM9b.out.below kk) hU4.at).mono ?_; rintro x wq ⟨rfl, hb⟩; replace kk := kk.trans (hb.mono kk.size); clear hb hU4))
      all_goals
        clear x0 x1 x2 y0 y1 y2 HXb HB9b HARb HM9b
        have hPc := b_block kk hPb (lt_of_block hPb); have hXc := b_block kk hXb (lt_of_block hXb); have hB8c := b_block kk hB8b (lt_of_block hB8b); have hB9c := b_block kk hB9b (lt_of_block hB9b); have hB10c := b_block kk hB10b (lt_of_block hB10b)
        have hO9c := hO9b.keep (Same.of_below kk (by omega)); have hM8c := hM8b.keep (Same.of_below kk (by omega)); have hARc := hARb.keep (Same.of_below kk (by omega)); have hO10c := hO10b.keep (Same.of_below kk (by omega))
        have kwc := kwb.trans (kk.mono kwb.size)
        have szc := kk.size
        clear hPb hXb hB8b hB9b hB10b hO9b hM8b hARb hO10b kwb kk
        -- the program's argument is marked
        obtain ⟨y0, y1, y2, _, _, _⟩ := three hB9c
        go_wp2_with fail
        go_at_call 12; refine (markMem_any 1 (by decide) (by decide) hs hO9c (by omega)).mono ?_; rintro x wd ⟨rfl, hO9d, hmd⟩
        clear y0 y1 y2
        have hPd := (hmd.block _ (lt_of_block hPc) (.inl (by omega))).trans hPc; have hXd := (hmd.block _ (lt_of_block hXc) (.inl (by omega))).trans hXc; have hB8d := (hmd.block _ (lt_of_block hB8c) (.inl hlB)).trans hB8c; have hB10d := (hmd.block _ (lt_of_block hB10c) (.inr (by omega))).trans hB10c
        have hM8d := hM8c.keep (Same.of_mid_lo hmd (Nat.le_refl _) (by omega)); have hARd := hARc.keep (Same.of_mid_lo hmd (Nat.le_refl _) (by omega)); have hO10d := hO10c.keep (Same.of_mid_hi hmd (by omega) (by omega))
        have kwd := kwc.trans ((hmd.below (by omega)).mono (by omega))
        have szd := hmd.size
        clear hPc hXc hB8c hB9c hB10c hO9c hM8c hARc hO10c kwc hmd hO9d
        have mk0 : decide (markEnd M 1 < 0) = false := by have := @markEnd_ge M 1; simp; omega
        obtain ⟨x0, x1, x2, _, _, _⟩ := three hB10d
        obtain ⟨y0, y1, y2, _, _, _⟩ := three hB8d
        go_wp2_with fail
        go_at_call 11; refine (eqMem_same hg (hO10d.range.at (by omega)) (hM8d.at (by omega))).mono ?_; rintro x we ⟨rfl, hb⟩
        clear x0 x1 x2 y0 y1 y2
        have hPe := b_block hb hPd (lt_of_block hPd); have hXe := b_block hb hXd (lt_of_block hXd); have hB8e := b_block hb hB8d (lt_of_block hB8d); have hB10e := b_block hb hB10d (lt_of_block hB10d)
        have hM8e := hM8d.keep (Same.of_below hb (by omega)); have hARe := hARd.keep (Same.of_below hb (by omega)); have hO10e := hO10d.keep (Same.of_below hb (by omega))
        have kwe := kwd.trans (hb.mono kwd.size)
        have sze := hb.size
        clear hPd hXd hB8d hB10d hM8d hARd hO10d kwd hb
        -- the answer is marked
        obtain ⟨x0, x1, x2, _, _, _⟩ := three hB10e
        go_wp2_with fail
        go_at_call 12; refine (markMem_any 1 (by decide) (by decide) hg hO10e (by omega)).mono ?_; rintro x wf ⟨rfl, hO10f, hmd⟩
        clear x0 x1 x2
        have hPf := (hmd.block _ (lt_of_block hPe) (.inl (by omega))).trans hPe; have hXf := (hmd.block _ (lt_of_block hXe) (.inl (by omega))).trans hXe; have hB8f := (hmd.block _ (lt_of_block hB8e) (.inl (by omega))).trans hB8e; have hB10f := (hmd.block _ (lt_of_block hB10e) hor).trans hB10e
        have hM8f := hM8e.keep (Same.of_mid_lo hmd (by omega) (by omega)); have hARf := hARe.keep (Same.of_mid_lo hmd (by omega) (by omega))
        have kwf := kwe.trans (hmd.belowN (n := w.heap.size) (by omega) (by omega))
        have szf := hmd.size
        clear hPe hXe hB8e hB10e hM8e hARe hO10e kwe hmd
        have mg0 : decide (markEnd N 1 < 0) = false := by have := @markEnd_ge N 1; simp; omega
        obtain ⟨x0, x1, x2, _, _, _⟩ := three hB10f
        go_wp2_with fail
        go_at_call 13; refine (heldMem_any 1 (by decide) (by decide) hg (hO10f.range.at (by show C2 ≤ wf.heap.size; omega))).mono ?_; rintro x wg ⟨rfl, hb⟩
        clear x0 x1 x2
        have hPg := b_block hb hPf (lt_of_block hPf); have hXg := b_block hb hXf (lt_of_block hXf); have hB8g := b_block hb hB8f (lt_of_block hB8f); have hB10g := b_block hb hB10f (lt_of_block hB10f)
        have hM8g := hM8f.keep (Same.of_below hb (by omega)); have hARg := hARf.keep (Same.of_below hb (by omega)); have hO10g := hO10f.keep (Same.of_below hb (by omega))
        have kwg := kwf.trans (hb.mono kwf.size)
        have szg := hb.size
        clear hPf hXf hB8f hB10f hM8f hARf hO10f kwf hb
        have HPg := Lib.hid hPg
        have HXg := Lib.hid hXg
        have HARg := Lib.hid (hARg.at (by omega))
        have lPg := lt_of_block hPg
        have lXg := lt_of_block hXg
        have hB8gl := lt_of_block hB8g
        have hB10gl := lt_of_block hB10g
        go_upto_region 24 with fail
        go_cut [16, 17] (fun v14 v15 wx => ∃ (b14 : Nat) (t14 p14 : Option Addr) (s14 r14 : Nat), v14 = .pointer (some ⟨b14, 0, none⟩) ∧ v15 = .bool q ∧ VarAt wx b14 N (.slice t14 N.tn s14) (.slice p14 N.pn r14) ∧ Below wg.heap.size wg wx)
        case first =>
          obtain ⟨x0, x1, x2, _, _, _⟩ := three HXg.out
          obtain ⟨y0, y1, y2, _, _, _⟩ := three HPg.out
          have kk := (Below.refl wg.heap.size wg).drew
          go_region_held3 (fun w' => w'.cell? ⟨w.heap.size, 0, none⟩ = some (.int .i64 a) ∧ w'.cell? ⟨w.heap.size, 1, none⟩ = some (.int .i64 b) ∧ w'.cell? ⟨w.heap.size, 2, none⟩ = some (.int .i64 c) ∧ w'.cell? ⟨w.heap.size + 1, 0, none⟩ = some (.int .i64 M.c) ∧ w'.cell? ⟨w.heap.size + 1, 1, none⟩ = some (.slice va M.tn vc) ∧ w'.cell? ⟨w.heap.size + 1, 2, none⟩ = some (.slice qa M.pn qc))
            (first | exact ⟨y0, y1, y2, x0, x1, x2⟩ | exact ⟨(kk.cell (p := ⟨w.heap.size, 0, none⟩) lPg).trans (cell_of_block HPg.out 0), (kk.cell (p := ⟨w.heap.size, 1, none⟩) lPg).trans (cell_of_block HPg.out 1), (kk.cell (p := ⟨w.heap.size, 2, none⟩) lPg).trans (cell_of_block HPg.out 2), (kk.cell (p := ⟨w.heap.size + 1, 0, none⟩) lXg).trans (cell_of_block HXg.out 0), (kk.cell (p := ⟨w.heap.size + 1, 1, none⟩) lXg).trans (cell_of_block HXg.out 1), (kk.cell (p := ⟨w.heap.size + 1, 2, none⟩) lXg).trans (cell_of_block HXg.out 2)⟩ | exact ⟨((kk.alloc kk.size (memO 0 (.slice none 0 0) (.slice none 0 0) 32)).cell (p := ⟨w.heap.size, 0, none⟩) lPg).trans (cell_of_block HPg.out 0), ((kk.alloc kk.size (memO 0 (.slice none 0 0) (.slice none 0 0) 32)).cell (p := ⟨w.heap.size, 1, none⟩) lPg).trans (cell_of_block HPg.out 1), ((kk.alloc kk.size (memO 0 (.slice none 0 0) (.slice none 0 0) 32)).cell (p := ⟨w.heap.size, 2, none⟩) lPg).trans (cell_of_block HPg.out 2), ((kk.alloc kk.size (memO 0 (.slice none 0 0) (.slice none 0 0) 32)).cell (p := ⟨w.heap.size + 1, 0, none⟩) lXg).trans (cell_of_block HXg.out 0), ((kk.alloc kk.size (memO 0 (.slice none 0 0) (.slice none 0 0) 32)).cell (p := ⟨w.heap.size + 1, 1, none⟩) lXg).trans (cell_of_block HXg.out 1), ((kk.alloc kk.size (memO 0 (.slice none 0 0) (.slice none 0 0) 32)).cell (p := ⟨w.heap.size + 1, 2, none⟩) lXg).trans (cell_of_block HXg.out 2)⟩ | exact ⟨(k8.cell (p := ⟨w.heap.size, 0, none⟩) lPg).trans (cell_of_block HPg.out 0), (k8.cell (p := ⟨w.heap.size, 1, none⟩) lPg).trans (cell_of_block HPg.out 1), (k8.cell (p := ⟨w.heap.size, 2, none⟩) lPg).trans (cell_of_block HPg.out 2), (k8.cell (p := ⟨w.heap.size + 1, 0, none⟩) lXg).trans (cell_of_block HXg.out 0), (k8.cell (p := ⟨w.heap.size + 1, 1, none⟩) lXg).trans (cell_of_block HXg.out 1), (k8.cell (p := ⟨w.heap.size + 1, 2, none⟩) lXg).trans (cell_of_block HXg.out 2)⟩ | exact ⟨(kset.cell (p := ⟨w.heap.size, 0, none⟩) lPg).trans (cell_of_block HPg.out 0), (kset.cell (p := ⟨w.heap.size, 1, none⟩) lPg).trans (cell_of_block HPg.out 1), (kset.cell (p := ⟨w.heap.size, 2, none⟩) lPg).trans (cell_of_block HPg.out 2), (kset.cell (p := ⟨w.heap.size + 1, 0, none⟩) lXg).trans (cell_of_block HXg.out 0), (kset.cell (p := ⟨w.heap.size + 1, 1, none⟩) lXg).trans (cell_of_block HXg.out 1), (kset.cell (p := ⟨w.heap.size + 1, 2, none⟩) lXg).trans (cell_of_block HXg.out 2)⟩ | go_keep)
            (first
              | (go_at_call 8; refine (toPlan_any _ _ _ _).mono ?_; rintro x wp ⟨rfl, hb⟩; (first | (have hZb := lt_of_block hZ; replace hZ := b_block hb hZ (lt_of_block hZ); replace kk := kk.trans (hb.mono kk.size)) | (obtain ⟨hZ, hZb⟩ := b_block_lt hb (heap_alloc_new _ (memO 0 (.slice none 0 0) (.slice none 0 0) 32)); have hZl := kk.size; replace kk := (kk.alloc kk.size (memO 0 (.slice none 0 0) (.slice none 0 0) 32)).trans (hb.mono (kk.alloc kk.size (memO 0 (.slice none 0 0) (.slice none 0 0) 32)).size)) | (replace kk := kk.trans (hb.mono kk.size))); clear hb)
              | (go_at_call 9; first | (refine (toMem_any hs (HARg.out.below kk)).mono ?_) | (refine (toMem_any hs (HARg.out.below (kk.alloc kk.size (memO 0 (.slice none 0 0) (.slice none 0 0) 32)))).mono ?_)
                 rintro x w3 ⟨u1, u2, rfl, hU1, hb⟩; (first | (have hZb := lt_of_block hZ; replace hZ := b_block hb hZ (lt_of_block hZ); replace kk := kk.trans (hb.mono kk.size)) | (obtain ⟨hZ, hZb⟩ := b_block_lt hb (heap_alloc_new _ (memO 0 (.slice none 0 0) (.slice none 0 0) 32)); have hZl := kk.size; replace kk := (kk.alloc kk.size (memO 0 (.slice none 0 0) (.slice none 0 0) 32)).trans (hb.mono (kk.alloc kk.size (memO 0 (.slice none 0 0) (.slice none 0 0) 32)).size)) | (replace kk := kk.trans (hb.mono kk.size))); clear hb)
              | (go_at_call 17; first | (refine (HI.out _ _ _ hU1.at).mono ?_) | (refine (HI.out _ _ _ (hU1.at.below ((Below.refl _ _).alloc (Nat.le_refl _) (memO 0 (.slice none 0 0) (.slice none 0 0) 32)))).mono ?_)
                 rintro x w4 ⟨v8, z8, rfl, hO8, hb⟩; obtain ⟨t8, s8, p8, r8, hv8, hz8⟩ := hO8.at.form; subst hv8 hz8; (first | (have hZb := lt_of_block hZ; replace hZ := b_block hb hZ (lt_of_block hZ); replace kk := kk.trans (hb.mono kk.size)) | (obtain ⟨hZ, hZb⟩ := b_block_lt hb (heap_alloc_new _ (memO 0 (.slice none 0 0) (.slice none 0 0) 32)); have hZl := kk.size; replace kk := (kk.alloc kk.size (memO 0 (.slice none 0 0) (.slice none 0 0) 32)).trans (hb.mono (kk.alloc kk.size (memO 0 (.slice none 0 0) (.slice none 0 0) 32)).size)) | (replace kk := kk.trans (hb.mono kk.size))); (first | (obtain ⟨z0, z1, z2, zf0, zf1, zf2⟩ := three hZ; have kset := ((kk.setCell (p := ⟨_, 0, none⟩) hZl (.int .i64 N.c)).setCell (p := ⟨_, 1, none⟩) hZl (.slice t8 N.tn s8)).setCell (p := ⟨_, 2, none⟩) hZl (.slice p8 N.pn r8)) | skip); have k8 := kk.alloc kk.size (memO N.c (.slice t8 N.tn s8) (.slice p8 N.pn r8) 32); have hB8 := heap_alloc_new w4 (memO N.c (.slice t8 N.tn s8) (.slice p8 N.pn r8) 32); clear hb hU1))
          all_goals
            go_wp2_with fail
            go_meet
            first
              | exact ⟨_, _, _, _, _, rfl, rfl, ⟨block_setCell (i := 2) (block_setCell (i := 1) (block_setCell (i := 0) hZ _) _) _, (hO8.setVar hZ _ _ _).range.at (by simp)⟩, kset⟩
              | exact ⟨_, _, _, _, _, rfl, rfl, ⟨hB8, hO8.at.below ((Below.refl _ _).alloc (Nat.le_refl _) _)⟩, k8⟩
        case rest =>
          obtain ⟨b14, t14, p14, s14, r14, rfl, rfl, ⟨hB14, hM14⟩, kc14⟩ := hcut
          have hB8h := b_block kc14 hB8g hB8gl; have hB10h := b_block kc14 hB10g hB10gl
          have hM8h := hM8g.keep (Same.of_below kc14 (by omega)); have hO10h := hO10g.keep (Same.of_below kc14 (by omega))
          have kwh := kwg.trans (kc14.mono kwg.size)
          have szh := kc14.size
          clear hB8g hB10g hM8g hO10g kwg kc14 hARg hPg hXg
          obtain ⟨x0, x1, x2, _, _, _⟩ := three hB14
          obtain ⟨y0, y1, y2, _, _, _⟩ := three hB8h
          go_wp2_with fail
          go_at_call 11; refine (eqMem_same hg hM14 (hM8h.at (by omega))).mono ?_; rintro x wi ⟨rfl, hb⟩
          clear x0 x1 x2 y0 y1 y2
          have hB10i := b_block hb hB10h (lt_of_block hB10h)
          have hO10i := hO10h.keep (Same.of_below hb (by omega))
          have kwi := kwh.trans (hb.mono kwh.size)
          have szi := hb.size
          clear hB8h hB10h hM8h hO10h kwh hB14 hM14 hb
          obtain ⟨x0, x1, x2, _, _, _⟩ := three hB10i
          go_wp2_with fail
          go_at_call 13; refine (heldMem_any 1 (by decide) (by decide) hg (hO10i.range.at (by omega))).mono ?_; rintro x wj ⟨rfl, hb⟩
          have kwj := kwi.trans (hb.mono kwi.size)
          clear x0 x1 x2 hb
          go_wp2
          go_ret
          exact ⟨rfl, kwj⟩

set_option maxRecDepth 100000 in
set_option maxHeartbeats 1000000 in
theorem rearmed_big (a b c d : Int) {tv pv : Value} {M : Me} {w : World} (htn : M.tn ≤ maxLen) (hpn : M.pn ≤ maxLen) (hns : ∀ i, i < M.pn → (M.p i).n ≤ maxLen) (hs : ¬ sizeM M ≤ 1048576) (h : MemAt w tv pv M) :
    Calls Tryz.prog 5 #[.agg #[.int .i64 a, .int .i64 b, .int .i64 c], meV M.c tv pv, .int .i64 d] w fun x w' => x = .returned (.bool true) ∧ Below w.heap.size w w' := by
  obtain ⟨va, vc, qa, qc, rfl, rfl⟩ := h.form
  have k0 := ((Below.refl w.heap.size w).alloc (Nat.le_refl _) (.cells #[.int .i64 a, .int .i64 b, .int .i64 c] 23)).alloc (by simp) (memO M.c (.slice va M.tn vc) (.slice qa M.pn qc) 27)
  have HSZ := Lib.hid (szMem_big (h.below k0) htn hpn hns 1048576 (by decide) (by decide) (by omega))
  clear h htn hpn hns
  go_enter Tryz.func5, Tryz.ntmps5
  go_wp2_with fail
  go_at_call 6; refine HSZ.out.mono ?_; rintro x w1 ⟨rfl, hb⟩
  go_wp2
  go_ret
  exact ⟨rfl, k0.trans (hb.mono k0.size)⟩

/-- what a function of a plan, a memory and 1 number(s) answers: a memory, and Bool -/
def AsksRearmed (fn : FuncId) : Prop := ∀ (a b c d : Int) (tv pv : Value) (M : Me) (w : World), sizeM M ≤ 1048576 → MemAt w tv pv M → Calls Tryz.prog fn #[.agg #[.int .i64 a, .int .i64 b, .int .i64 c], meV M.c tv pv, .int .i64 d] w (NewMeB (rearmedG a b c d M) (rearmedQ a b c d M) w)

set_option maxRecDepth 100000 in
theorem exactRearmed_lifted (hSp : AsksRearmed 16) (hI : AsksRearmed 17) (os : Os) (started : os.Started) (H : Type) (enc : TypeId × Value → H) :
    ReturnsInHanded {} Tryz.checked os 5 .any (Rows.fnExactRearmedSpec.pre6 enc Tryz.prog Tryz.f5 Rows.fnExactRearmedRow.domain false) (Rows.fnExactRearmedSpec.post enc Tryz.prog Tryz.f5 false true false false) := by
  refine returnsInHanded_of_change (C := Tryz.checked) own started (by kernel_rfl) Tryz.func5
    (ChangeSpec.witness6 (enc := enc) (C := Tryz.checked) false ⟨#[], #[.agg #[.int .i64 0, .int .i64 0, .int .i64 0], .agg #[.int .i64 0, .slice none 0 0, .slice none 0 0], .int .i64 0], []⟩ 8 (by kernel_rfl) (by kernel_rfl) (by kernel_rfl) (by kernel_rfl)) ?_
  intro W base args ds gs before hval0 hW _ _
  have hval : ∀ (j : Nat) t v, Tryz.f5.params[j]? = some t → args[j]? = some v → Value.okWide Tryz.prog W .any base t v := hval0
  have hW' := hW
  obtain ⟨p, q, hA0, hV, rfl, _, _⟩ := hW
  have hA : DataW.TrodAll enc Tryz.prog W 0 (fun _ => true) true Tryz.f5.params.toList args.toList ds p := hA0
  rw [Tryz.params5] at hA hval
  obtain ⟨v0, v1, v2, d0, d1, d2, p0, p1, p2, rfl, rfl, rfl, h0, h1, h2⟩ := trodAll_three hA
  obtain ⟨rfl, rfl⟩ := trodVars_none hV
  have lt0 : ∀ x ∈ p0, x.block < W.heap.size := by obtain ⟨m, hm⟩ := h0; exact DataW.trod_lt m _ _ _ hm
  have lt1 : ∀ x ∈ p1, x.block < W.heap.size := by obtain ⟨m, hm⟩ := h1; exact DataW.trod_lt m _ _ _ hm
  have lt2 : ∀ x ∈ p2, x.block < W.heap.size := by obtain ⟨m, hm⟩ := h2; exact DataW.trod_lt m _ _ _ hm
  obtain ⟨a, b, c, rfl⟩ := plan_inM (hval 0 23 v0 rfl rfl) h0
  obtain ⟨tv, pv, M, rfl, htn, hpn, hns, hM⟩ := mem_in (hval 1 27 v1 rfl rfl) h1
  obtain ⟨d, rfl, _, _⟩ := open_int Tryz.underlying2 (hval 2 2 v2 rfl rfl) h2
  clear hA0 hval0
  have key : Calls Tryz.prog 5 #[.agg #[.int .i64 a, .int .i64 b, .int .i64 c], meV M.c tv pv, .int .i64 d] W fun x w' => x = .returned (.bool true) ∧ Below W.heap.size W w' := by
    by_cases hs : sizeM M ≤ 1048576
    · exact rearmed_small a b c d hs (rearmedG_size a b c d hs) (Lib.hid (fun tv pv w h => hSp a b c d tv pv M w hs h)) (Lib.hid (fun tv pv w h => hI a b c d tv pv M w hs h)) hM
    · exact rearmed_big a b c d htn hpn hns hs hM
  refine key.mono fun x W' ⟨he, hb⟩ => ?_
  subst he
  exact ⟨_, rfl, _, _, _, [], _, [], hW', trodAll_mk1 (shut_bool Tryz.underlying4 _), trodAll_mk3 (Below.trod laidOut (by kernel_rfl) (of_decide_eq_true (by kernel_rfl)) h0 hb lt0) (Below.trod laidOut (by kernel_rfl) (of_decide_eq_true (by kernel_rfl)) h1 hb lt1) (Below.trod laidOut (by kernel_rfl) (of_decide_eq_true (by kernel_rfl)) h2 hb lt2), rfl, hb.frame _, fun h => by cases h⟩

theorem exactRearmed_holds (hSp : AsksRearmed 16) (hI : AsksRearmed 17) : Rows.FnExactRearmedSaid :=
  OpenClaim.holds_of_wide 5 Tryz.f5 rfl rfl rfl rfl rfl rfl rfl ⟨rfl, rfl, rfl, rfl, rfl⟩ rfl rfl rfl rfl rfl (by kernel_rfl) Tryz.func5 (by kernel_rfl)
    (of_decide_eq_true (by kernel_rfl)) (by unfold Func.isWrapper; rw [if_neg (of_decide_eq_false (by kernel_rfl))]; exact ⟨rfl, rfl⟩)
    (fun os started H enc _ => exactRearmed_lifted hSp hI os started H enc)

end Go.Proofs.YtonpbmeekgdilaaGreat
