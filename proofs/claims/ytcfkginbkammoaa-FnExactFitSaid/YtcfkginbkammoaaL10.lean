/-
  FnExactFit, told what the program answers.
-/
import Derived.Test.YtcfkginbkammoaaL09
import Derived.Test.YtcfkginbkammoaaL00
import Derived.Test.YtcfkginbkammoaaL06
import Derived.Deep.QuietTactic
import Derived.BigQuiet
import Derived.Deep.DeepCutAuto
import Derived.Test.YtcfkginbkammoaaL02
namespace Go.Proofs.Ytcfkginbkammoaa
open Go.Deep Go.ChangeShapes Go.WideShapes Go.ChangeAt Go.RowKit Go.Joins
set_option linter.unusedVariables false

set_option maxRecDepth 100000 in
set_option maxHeartbeats 4000000 in
theorem fit_small {q : Bool} (a b c d : Int) (h : Hd) {tv pv : Value} {M : Me} {w : World} (hs : sizeM M ≤ 1048576) (HS : RowKit.Hid (∀ (tv pv : Value) (w : World), MemAt w tv pv M → Calls Try.prog 5 #[.agg #[.int .i64 a, .int .i64 b, .int .i64 c], meV M.c tv pv, .int .i64 d, hdV h] w fun x w' => x = .returned (.bool q) ∧ Below w.heap.size w w'))
    (HI : RowKit.Hid (∀ (tv pv : Value) (w : World), MemAt w tv pv M → Calls Try.prog 9 #[.agg #[.int .i64 a, .int .i64 b, .int .i64 c], meV M.c tv pv, .int .i64 d, hdV h] w fun x w' => x = .returned (.bool q) ∧ Below w.heap.size w w')) (hm : MemAt w tv pv M) :
    Calls Try.prog 3 #[.agg #[.int .i64 a, .int .i64 b, .int .i64 c], meV M.c tv pv, .int .i64 d, hdV h] w fun x w' => x = .returned (.bool true) ∧ Below w.heap.size w w' := by
  obtain ⟨va, vc, qa, qc, rfl, rfl⟩ := hm.form
  have k0 := (((Below.refl w.heap.size w).alloc (Nat.le_refl _) (.cells #[.int .i64 a, .int .i64 b, .int .i64 c] 23)).alloc (by simp) (memO M.c (.slice va M.tn vc) (.slice qa M.pn qc) 27)).alloc (by simp; omega) (.cells (hdCells h) 31)
  have RV := Lib.hid (hm.below k0)
  have hPx := alloc_block (.cells (hdCells h) 31) (alloc_block (memO M.c (.slice va M.tn vc) (.slice qa M.pn qc) 27) (heap_alloc_new w (.cells #[.int .i64 a, .int .i64 b, .int .i64 c] 23)))
  have hX := heap_alloc_new (w.alloc (.cells #[.int .i64 a, .int .i64 b, .int .i64 c] 23)) (memO M.c (.slice va M.tn vc) (.slice qa M.pn qc) 27)
  rw [show (w.alloc (.cells #[.int .i64 a, .int .i64 b, .int .i64 c] 23)).heap.size = w.heap.size + 1 by simp] at hX
  replace hX := alloc_block (.cells (hdCells h) 31) hX
  have hH := heap_alloc_new ((w.alloc (.cells #[.int .i64 a, .int .i64 b, .int .i64 c] 23)).alloc (memO M.c (.slice va M.tn vc) (.slice qa M.pn qc) 27)) (.cells (hdCells h) 31)
  rw [show ((w.alloc (.cells #[.int .i64 a, .int .i64 b, .int .i64 c] 23)).alloc (memO M.c (.slice va M.tn vc) (.slice qa M.pn qc) 27)).heap.size = w.heap.size + 1 + 1 by simp] at hH
  have HSZ := Lib.hid (szMem_ok (hm.below k0) 1048576 (by decide) (by omega))
  obtain ⟨z, hze⟩ : ∃ z : Int, z = 1048576 - ((sizeM M : Nat) : Int) := ⟨_, rfl⟩
  have hz : decide (z < 0) = false := by simp; omega
  have HZ := Lib.hid hze
  clear hm hze
  go_enter Try.func3, Try.ntmps3
  go_wp2_with fail
  go_at_call 4; refine HSZ.out.mono ?_; rw [← HZ.out]; rintro x W2 ⟨rfl, hb⟩
  have HP := Lib.hid (b_block hb hPx (lt_of_block hPx))
  have HX := Lib.hid (b_block hb hX (lt_of_block hX))
  have HH := Lib.hid (b_block hb hH (lt_of_block hH))
  have HA := Lib.hid (RV.out.below hb)
  have lP := lt_of_block HP.out
  have lX := lt_of_block HX.out
  have lH := lt_of_block HH.out
  have kw := k0.trans (hb.mono k0.size)
  clear hb hPx hX hH k0
  go_upto_region 5 with fail
  have kk := (Below.refl W2.heap.size W2).drew
  have y0 := Lib.hid (show W2.cell? ⟨w.heap.size, 0, none⟩ = some (.int .i64 a) from cell_of_block HP.out 0)
  have y1 := Lib.hid (show W2.cell? ⟨w.heap.size, 1, none⟩ = some (.int .i64 b) from cell_of_block HP.out 1)
  have y2 := Lib.hid (show W2.cell? ⟨w.heap.size, 2, none⟩ = some (.int .i64 c) from cell_of_block HP.out 2)
  have y3 := Lib.hid (show W2.cell? ⟨w.heap.size + 1, 0, none⟩ = some (.int .i64 M.c) from cell_of_block HX.out 0)
  have y4 := Lib.hid (show W2.cell? ⟨w.heap.size + 1, 1, none⟩ = some (.slice va M.tn vc) from cell_of_block HX.out 1)
  have y5 := Lib.hid (show W2.cell? ⟨w.heap.size + 1, 2, none⟩ = some (.slice qa M.pn qc) from cell_of_block HX.out 2)
  have y6 := Lib.hid (show W2.cell? ⟨w.heap.size + 1 + 1, 0, none⟩ = some (.int .i64 h.pos) from cell_of_block HH.out 0)
  have y7 := Lib.hid (show W2.cell? ⟨w.heap.size + 1 + 1, 1, none⟩ = some (.int .i64 h.call.code) from cell_of_block HH.out 1)
  have y8 := Lib.hid (show W2.cell? ⟨w.heap.size + 1 + 1, 2, none⟩ = some (.int .i64 h.call.a) from cell_of_block HH.out 2)
  have y9 := Lib.hid (show W2.cell? ⟨w.heap.size + 1 + 1, 3, none⟩ = some (.int .i64 h.call.b) from cell_of_block HH.out 3)
  have y10 := Lib.hid (show W2.cell? ⟨w.heap.size + 1 + 1, 4, none⟩ = some (.int .i64 h.call.c) from cell_of_block HH.out 4)
  have y11 := Lib.hid (show W2.cell? ⟨w.heap.size + 1 + 1, 5, none⟩ = some (.int .i64 h.tim) from cell_of_block HH.out 5)
  have y12 := Lib.hid (show W2.cell? ⟨w.heap.size + 1 + 1, 6, none⟩ = some (.int .i64 h.whe) from cell_of_block HH.out 6)
  have y13 := Lib.hid (show W2.cell? ⟨w.heap.size + 1 + 1, 7, none⟩ = some (.bool h.had) from cell_of_block HH.out 7)
  have y14 := Lib.hid (show W2.cell? ⟨w.heap.size + 1 + 1, 8, none⟩ = some (.int .i64 h.cnt) from cell_of_block HH.out 8)
  have y15 := Lib.hid (show W2.cell? ⟨w.heap.size + 1 + 1, 9, none⟩ = some (.int .i64 h.beg) from cell_of_block HH.out 9)
  have y16 := Lib.hid (show W2.cell? ⟨w.heap.size + 1 + 1, 10, none⟩ = some (.int .i64 h.rep) from cell_of_block HH.out 10)
  have y17 := Lib.hid (show W2.cell? ⟨w.heap.size + 1 + 1, 11, none⟩ = some (.int .i64 h.out) from cell_of_block HH.out 11)
  go_region_held3 (fun w' => w'.cell? ⟨w.heap.size, 0, none⟩ = some (.int .i64 a) ∧ w'.cell? ⟨w.heap.size, 1, none⟩ = some (.int .i64 b) ∧ w'.cell? ⟨w.heap.size, 2, none⟩ = some (.int .i64 c) ∧ w'.cell? ⟨w.heap.size + 1, 0, none⟩ = some (.int .i64 M.c) ∧ w'.cell? ⟨w.heap.size + 1, 1, none⟩ = some (.slice va M.tn vc) ∧ w'.cell? ⟨w.heap.size + 1, 2, none⟩ = some (.slice qa M.pn qc) ∧ w'.cell? ⟨w.heap.size + 1 + 1, 0, none⟩ = some (.int .i64 h.pos) ∧ w'.cell? ⟨w.heap.size + 1 + 1, 1, none⟩ = some (.int .i64 h.call.code) ∧ w'.cell? ⟨w.heap.size + 1 + 1, 2, none⟩ = some (.int .i64 h.call.a) ∧ w'.cell? ⟨w.heap.size + 1 + 1, 3, none⟩ = some (.int .i64 h.call.b) ∧ w'.cell? ⟨w.heap.size + 1 + 1, 4, none⟩ = some (.int .i64 h.call.c) ∧ w'.cell? ⟨w.heap.size + 1 + 1, 5, none⟩ = some (.int .i64 h.tim) ∧ w'.cell? ⟨w.heap.size + 1 + 1, 6, none⟩ = some (.int .i64 h.whe) ∧ w'.cell? ⟨w.heap.size + 1 + 1, 7, none⟩ = some (.bool h.had) ∧ w'.cell? ⟨w.heap.size + 1 + 1, 8, none⟩ = some (.int .i64 h.cnt) ∧ w'.cell? ⟨w.heap.size + 1 + 1, 9, none⟩ = some (.int .i64 h.beg) ∧ w'.cell? ⟨w.heap.size + 1 + 1, 10, none⟩ = some (.int .i64 h.rep) ∧ w'.cell? ⟨w.heap.size + 1 + 1, 11, none⟩ = some (.int .i64 h.out))
    (first | with_reducible exact ⟨(kk.cell (p := ⟨w.heap.size, 0, none⟩) lP).trans y0.out, (kk.cell (p := ⟨w.heap.size, 1, none⟩) lP).trans y1.out, (kk.cell (p := ⟨w.heap.size, 2, none⟩) lP).trans y2.out, (kk.cell (p := ⟨w.heap.size + 1, 0, none⟩) lX).trans y3.out, (kk.cell (p := ⟨w.heap.size + 1, 1, none⟩) lX).trans y4.out, (kk.cell (p := ⟨w.heap.size + 1, 2, none⟩) lX).trans y5.out, (kk.cell (p := ⟨w.heap.size + 1 + 1, 0, none⟩) lH).trans y6.out, (kk.cell (p := ⟨w.heap.size + 1 + 1, 1, none⟩) lH).trans y7.out, (kk.cell (p := ⟨w.heap.size + 1 + 1, 2, none⟩) lH).trans y8.out, (kk.cell (p := ⟨w.heap.size + 1 + 1, 3, none⟩) lH).trans y9.out, (kk.cell (p := ⟨w.heap.size + 1 + 1, 4, none⟩) lH).trans y10.out, (kk.cell (p := ⟨w.heap.size + 1 + 1, 5, none⟩) lH).trans y11.out, (kk.cell (p := ⟨w.heap.size + 1 + 1, 6, none⟩) lH).trans y12.out, (kk.cell (p := ⟨w.heap.size + 1 + 1, 7, none⟩) lH).trans y13.out, (kk.cell (p := ⟨w.heap.size + 1 + 1, 8, none⟩) lH).trans y14.out, (kk.cell (p := ⟨w.heap.size + 1 + 1, 9, none⟩) lH).trans y15.out, (kk.cell (p := ⟨w.heap.size + 1 + 1, 10, none⟩) lH).trans y16.out, (kk.cell (p := ⟨w.heap.size + 1 + 1, 11, none⟩) lH).trans y17.out⟩ | go_keep)
    (first
      | (go_at_call 6; refine (toPlan_any _ _ _ _).mono ?_; rintro x wp ⟨rfl, hb⟩; replace kk := kk.trans (hb.mono kk.size); clear hb)
      | (go_at_call 7; refine (toMem_any hs (HA.out.below kk)).mono ?_; rintro x w3 ⟨u1, u2, rfl, hU1, hb⟩; replace kk := kk.trans (hb.mono kk.size); have hU := hU1.at; clear hb hU1)
      | (go_at_call 8; refine (toHand_any _ _).mono ?_; rintro x wp ⟨rfl, hb⟩; replace hU := hU.below hb; replace kk := kk.trans (hb.mono kk.size); clear hb)
      | (go_at_call 5; refine (HS.out _ _ _ hU).mono ?_; rintro x w4 ⟨rfl, hb⟩; replace kk := kk.trans (hb.mono kk.size); clear hb hU))
  clear y0 y1 y2 y3 y4 y5 y6 y7 y8 y9 y10 y11 y12 y13 y14 y15 y16 y17
  obtain ⟨x0, x1, x2, _, _, _⟩ := three (b_block kk HX.out lX)
  go_wp2_with fail
  go_at_call 7; refine (toMem_any hs (HA.out.below kk)).mono ?_; rintro x w5 ⟨u9, z9, rfl, hO9, hb⟩
  obtain ⟨ua, uc, ya, yc, hu, hy⟩ := hO9.at.form
  subst hu hy
  clear x0 x1 x2
  replace kk := kk.trans (hb.mono kk.size)
  have kY := kk.alloc kk.size (memO M.c (.slice ua M.tn uc) (.slice ya M.pn yc) 39)
  have hY := heap_alloc_new w5 (memO M.c (.slice ua M.tn uc) (.slice ya M.pn yc) 39)
  have HU := Lib.hid (hO9.at.below ((Below.refl _ _).alloc (Nat.le_refl _) (memO M.c (.slice ua M.tn uc) (.slice ya M.pn yc) 39)))
  clear hO9 hb
  go_upto_region 7 with fail
  have lY := lt_of_block hY
  generalize w5.alloc (memO M.c (.slice ua M.tn uc) (.slice ya M.pn yc) 39) = W7 at hY HU kY lY ⊢
  clear kk
  have HY := Lib.hid hY
  have HP7 := Lib.hid (b_block kY HP.out lP)
  have HH7 := Lib.hid (b_block kY HH.out lH)
  have HX7 := Lib.hid (b_block kY HX.out lX)
  have HA7 := Lib.hid (HA.out.below kY)
  have kw7 := kw.trans (kY.mono kw.size)
  have s7 := kY.size
  replace lP : w.heap.size < W7.heap.size := lt_of_block HP7.out
  replace lH : w.heap.size + 1 + 1 < W7.heap.size := lt_of_block HH7.out
  replace lX : w.heap.size + 1 < W7.heap.size := lt_of_block HX7.out
  clear HP HH HX HA kY kw hY
  have kk := (Below.refl W7.heap.size W7).drew
  have y0 := Lib.hid (show W7.cell? ⟨w.heap.size, 0, none⟩ = some (.int .i64 a) from cell_of_block HP7.out 0)
  have y1 := Lib.hid (show W7.cell? ⟨w.heap.size, 1, none⟩ = some (.int .i64 b) from cell_of_block HP7.out 1)
  have y2 := Lib.hid (show W7.cell? ⟨w.heap.size, 2, none⟩ = some (.int .i64 c) from cell_of_block HP7.out 2)
  have y3 := Lib.hid (show W7.cell? ⟨w5.heap.size, 0, none⟩ = some (.int .i64 M.c) from cell_of_block HY.out 0)
  have y4 := Lib.hid (show W7.cell? ⟨w5.heap.size, 1, none⟩ = some (.slice ua M.tn uc) from cell_of_block HY.out 1)
  have y5 := Lib.hid (show W7.cell? ⟨w5.heap.size, 2, none⟩ = some (.slice ya M.pn yc) from cell_of_block HY.out 2)
  have y6 := Lib.hid (show W7.cell? ⟨w.heap.size + 1 + 1, 0, none⟩ = some (.int .i64 h.pos) from cell_of_block HH7.out 0)
  have y7 := Lib.hid (show W7.cell? ⟨w.heap.size + 1 + 1, 1, none⟩ = some (.int .i64 h.call.code) from cell_of_block HH7.out 1)
  have y8 := Lib.hid (show W7.cell? ⟨w.heap.size + 1 + 1, 2, none⟩ = some (.int .i64 h.call.a) from cell_of_block HH7.out 2)
  have y9 := Lib.hid (show W7.cell? ⟨w.heap.size + 1 + 1, 3, none⟩ = some (.int .i64 h.call.b) from cell_of_block HH7.out 3)
  have y10 := Lib.hid (show W7.cell? ⟨w.heap.size + 1 + 1, 4, none⟩ = some (.int .i64 h.call.c) from cell_of_block HH7.out 4)
  have y11 := Lib.hid (show W7.cell? ⟨w.heap.size + 1 + 1, 5, none⟩ = some (.int .i64 h.tim) from cell_of_block HH7.out 5)
  have y12 := Lib.hid (show W7.cell? ⟨w.heap.size + 1 + 1, 6, none⟩ = some (.int .i64 h.whe) from cell_of_block HH7.out 6)
  have y13 := Lib.hid (show W7.cell? ⟨w.heap.size + 1 + 1, 7, none⟩ = some (.bool h.had) from cell_of_block HH7.out 7)
  have y14 := Lib.hid (show W7.cell? ⟨w.heap.size + 1 + 1, 8, none⟩ = some (.int .i64 h.cnt) from cell_of_block HH7.out 8)
  have y15 := Lib.hid (show W7.cell? ⟨w.heap.size + 1 + 1, 9, none⟩ = some (.int .i64 h.beg) from cell_of_block HH7.out 9)
  have y16 := Lib.hid (show W7.cell? ⟨w.heap.size + 1 + 1, 10, none⟩ = some (.int .i64 h.rep) from cell_of_block HH7.out 10)
  have y17 := Lib.hid (show W7.cell? ⟨w.heap.size + 1 + 1, 11, none⟩ = some (.int .i64 h.out) from cell_of_block HH7.out 11)
  go_region_held3 (fun w' => w'.cell? ⟨w.heap.size, 0, none⟩ = some (.int .i64 a) ∧ w'.cell? ⟨w.heap.size, 1, none⟩ = some (.int .i64 b) ∧ w'.cell? ⟨w.heap.size, 2, none⟩ = some (.int .i64 c) ∧ w'.cell? ⟨w5.heap.size, 0, none⟩ = some (.int .i64 M.c) ∧ w'.cell? ⟨w5.heap.size, 1, none⟩ = some (.slice ua M.tn uc) ∧ w'.cell? ⟨w5.heap.size, 2, none⟩ = some (.slice ya M.pn yc) ∧ w'.cell? ⟨w.heap.size + 1 + 1, 0, none⟩ = some (.int .i64 h.pos) ∧ w'.cell? ⟨w.heap.size + 1 + 1, 1, none⟩ = some (.int .i64 h.call.code) ∧ w'.cell? ⟨w.heap.size + 1 + 1, 2, none⟩ = some (.int .i64 h.call.a) ∧ w'.cell? ⟨w.heap.size + 1 + 1, 3, none⟩ = some (.int .i64 h.call.b) ∧ w'.cell? ⟨w.heap.size + 1 + 1, 4, none⟩ = some (.int .i64 h.call.c) ∧ w'.cell? ⟨w.heap.size + 1 + 1, 5, none⟩ = some (.int .i64 h.tim) ∧ w'.cell? ⟨w.heap.size + 1 + 1, 6, none⟩ = some (.int .i64 h.whe) ∧ w'.cell? ⟨w.heap.size + 1 + 1, 7, none⟩ = some (.bool h.had) ∧ w'.cell? ⟨w.heap.size + 1 + 1, 8, none⟩ = some (.int .i64 h.cnt) ∧ w'.cell? ⟨w.heap.size + 1 + 1, 9, none⟩ = some (.int .i64 h.beg) ∧ w'.cell? ⟨w.heap.size + 1 + 1, 10, none⟩ = some (.int .i64 h.rep) ∧ w'.cell? ⟨w.heap.size + 1 + 1, 11, none⟩ = some (.int .i64 h.out))
    (first | with_reducible exact ⟨(kk.cell (p := ⟨w.heap.size, 0, none⟩) lP).trans y0.out, (kk.cell (p := ⟨w.heap.size, 1, none⟩) lP).trans y1.out, (kk.cell (p := ⟨w.heap.size, 2, none⟩) lP).trans y2.out, (kk.cell (p := ⟨w5.heap.size, 0, none⟩) lY).trans y3.out, (kk.cell (p := ⟨w5.heap.size, 1, none⟩) lY).trans y4.out, (kk.cell (p := ⟨w5.heap.size, 2, none⟩) lY).trans y5.out, (kk.cell (p := ⟨w.heap.size + 1 + 1, 0, none⟩) lH).trans y6.out, (kk.cell (p := ⟨w.heap.size + 1 + 1, 1, none⟩) lH).trans y7.out, (kk.cell (p := ⟨w.heap.size + 1 + 1, 2, none⟩) lH).trans y8.out, (kk.cell (p := ⟨w.heap.size + 1 + 1, 3, none⟩) lH).trans y9.out, (kk.cell (p := ⟨w.heap.size + 1 + 1, 4, none⟩) lH).trans y10.out, (kk.cell (p := ⟨w.heap.size + 1 + 1, 5, none⟩) lH).trans y11.out, (kk.cell (p := ⟨w.heap.size + 1 + 1, 6, none⟩) lH).trans y12.out, (kk.cell (p := ⟨w.heap.size + 1 + 1, 7, none⟩) lH).trans y13.out, (kk.cell (p := ⟨w.heap.size + 1 + 1, 8, none⟩) lH).trans y14.out, (kk.cell (p := ⟨w.heap.size + 1 + 1, 9, none⟩) lH).trans y15.out, (kk.cell (p := ⟨w.heap.size + 1 + 1, 10, none⟩) lH).trans y16.out, (kk.cell (p := ⟨w.heap.size + 1 + 1, 11, none⟩) lH).trans y17.out⟩ | go_keep)
    (first
      | (go_at_call 6; refine (toPlan_any _ _ _ _).mono ?_; rintro x wp ⟨rfl, hb⟩; replace kk := kk.trans (hb.mono kk.size); clear hb)
      | (go_at_call 8; refine (toHand_any _ _).mono ?_; rintro x wp ⟨rfl, hb⟩; replace kk := kk.trans (hb.mono kk.size); clear hb)
      | (go_at_call 9; refine (HI.out _ _ _ (HU.out.below kk)).mono ?_; rintro x w8 ⟨rfl, hb⟩; replace kk := kk.trans (hb.mono kk.size); clear hb))
  clear y0 y1 y2 y3 y4 y5 y6 y7 y8 y9 y10 y11 y12 y13 y14 y15 y16 y17
  go_upto_region 10 with fail
  replace kk := kk.drew
  have HY8 := HY
  have HX8 := HX7
  have y0 := Lib.hid (show W7.cell? ⟨w5.heap.size, 0, none⟩ = some (.int .i64 M.c) from cell_of_block HY8.out 0)
  have y1 := Lib.hid (show W7.cell? ⟨w5.heap.size, 1, none⟩ = some (.slice ua M.tn uc) from cell_of_block HY8.out 1)
  have y2 := Lib.hid (show W7.cell? ⟨w5.heap.size, 2, none⟩ = some (.slice ya M.pn yc) from cell_of_block HY8.out 2)
  have y3 := Lib.hid (show W7.cell? ⟨w.heap.size + 1, 0, none⟩ = some (.int .i64 M.c) from cell_of_block HX8.out 0)
  have y4 := Lib.hid (show W7.cell? ⟨w.heap.size + 1, 1, none⟩ = some (.slice va M.tn vc) from cell_of_block HX8.out 1)
  have y5 := Lib.hid (show W7.cell? ⟨w.heap.size + 1, 2, none⟩ = some (.slice qa M.pn qc) from cell_of_block HX8.out 2)
  go_region_held3 (fun w' => w'.cell? ⟨w5.heap.size, 0, none⟩ = some (.int .i64 M.c) ∧ w'.cell? ⟨w5.heap.size, 1, none⟩ = some (.slice ua M.tn uc) ∧ w'.cell? ⟨w5.heap.size, 2, none⟩ = some (.slice ya M.pn yc) ∧ w'.cell? ⟨w.heap.size + 1, 0, none⟩ = some (.int .i64 M.c) ∧ w'.cell? ⟨w.heap.size + 1, 1, none⟩ = some (.slice va M.tn vc) ∧ w'.cell? ⟨w.heap.size + 1, 2, none⟩ = some (.slice qa M.pn qc))
    (first | with_reducible exact ⟨(kk.cell (p := ⟨w5.heap.size, 0, none⟩) lY).trans y0.out, (kk.cell (p := ⟨w5.heap.size, 1, none⟩) lY).trans y1.out, (kk.cell (p := ⟨w5.heap.size, 2, none⟩) lY).trans y2.out, (kk.cell (p := ⟨w.heap.size + 1, 0, none⟩) lX).trans y3.out, (kk.cell (p := ⟨w.heap.size + 1, 1, none⟩) lX).trans y4.out, (kk.cell (p := ⟨w.heap.size + 1, 2, none⟩) lX).trans y5.out⟩ | go_keep)
    (first
      | (go_at_call 7; refine (toMem_any hs (HA7.out.below kk)).mono ?_; rintro x w9 ⟨u4, u5, rfl, hU4, hb⟩; replace kk := kk.trans (hb.mono kk.size); clear hb)
      | (go_at_call 10; refine (eqMem_same hs (HU.out.below kk) hU4.at).mono ?_; rintro x w10 ⟨rfl, hb⟩; replace kk := kk.trans (hb.mono kk.size); clear hb))
  all_goals
    clear y0 y1 y2 y3 y4 y5
    go_wp2
    go_ret
    exact ⟨rfl, kw7.trans (kk.mono kw7.size)⟩

set_option maxRecDepth 100000 in
set_option maxHeartbeats 1000000 in
theorem fit_big (a b c d : Int) (h : Hd) {tv pv : Value} {M : Me} {w : World} (htn : M.tn ≤ maxLen) (hpn : M.pn ≤ maxLen) (hns : ∀ i, i < M.pn → (M.p i).n ≤ maxLen) (hs : ¬ sizeM M ≤ 1048576) (hm : MemAt w tv pv M) :
    Calls Try.prog 3 #[.agg #[.int .i64 a, .int .i64 b, .int .i64 c], meV M.c tv pv, .int .i64 d, hdV h] w fun x w' => x = .returned (.bool true) ∧ Below w.heap.size w w' := by
  obtain ⟨va, vc, qa, qc, rfl, rfl⟩ := hm.form
  have k0 := (((Below.refl w.heap.size w).alloc (Nat.le_refl _) (.cells #[.int .i64 a, .int .i64 b, .int .i64 c] 23)).alloc (by simp) (memO M.c (.slice va M.tn vc) (.slice qa M.pn qc) 27)).alloc (by simp; omega) (.cells (hdCells h) 31)
  have HSZ := Lib.hid (szMem_big (hm.below k0) htn hpn hns 1048576 (by decide) (by decide) (by omega))
  clear hm htn hpn hns
  go_enter Try.func3, Try.ntmps3
  go_wp2_with fail
  go_at_call 4; refine HSZ.out.mono ?_; rintro x w1 ⟨rfl, hb⟩
  go_wp2
  go_ret
  exact ⟨rfl, k0.trans (hb.mono k0.size)⟩

/-- what a function of a plan, a memory, a number and a hand answers: a truth value -/
def AsksFit (gq : Int → Int → Int → Int → Me → Hd → Bool) (fn : FuncId) : Prop := ∀ (a b c d : Int) (h : Hd) (tv pv : Value) (M : Me) (w : World), sizeM M ≤ 1048576 → MemAt w tv pv M → Calls Try.prog fn #[.agg #[.int .i64 a, .int .i64 b, .int .i64 c], meV M.c tv pv, .int .i64 d, hdV h] w fun x w' => x = .returned (.bool (gq a b c d M h)) ∧ Below w.heap.size w w'

set_option maxRecDepth 100000 in
theorem exactFit_lifted {gq : Int → Int → Int → Int → Me → Hd → Bool} (hSp : AsksFit gq 5) (hI : AsksFit gq 9) (os : Os) (started : os.Started) (H : Type) (enc : TypeId × Value → H) :
    ReturnsInHanded {} Try.checked os 3 .any (Rows.fnExactFitSpec.pre6 enc Try.prog Try.f3 Rows.fnExactFitRow.domain false) (Rows.fnExactFitSpec.post enc Try.prog Try.f3 false true false false) := by
  refine returnsInHanded_of_change (C := Try.checked) own started (by kernel_rfl) Try.func3
    (ChangeSpec.witness6 (enc := enc) (C := Try.checked) false ⟨#[], #[.agg #[.int .i64 0, .int .i64 0, .int .i64 0], .agg #[.int .i64 0, .slice none 0 0, .slice none 0 0], .int .i64 0, .agg #[.int .i64 0, .int .i64 0, .int .i64 0, .int .i64 0, .int .i64 0, .int .i64 0, .int .i64 0, .bool false, .int .i64 0, .int .i64 0, .int .i64 0, .int .i64 0]], []⟩ 8 (by kernel_rfl) (by kernel_rfl) (by kernel_rfl) (by kernel_rfl)) ?_
  intro W base args ds gs before hval0 hW _ _
  have hval : ∀ (j : Nat) t v, Try.f3.params[j]? = some t → args[j]? = some v → Value.okWide Try.prog W .any base t v := hval0
  have hW' := hW
  obtain ⟨p, q, hA0, hV, rfl, _, _⟩ := hW
  have hA : DataW.TrodAll enc Try.prog W 0 (fun _ => true) true Try.f3.params.toList args.toList ds p := hA0
  rw [Try.params3] at hA hval
  obtain ⟨v0, v1, v2, v3, d0, d1, d2, d3, p0, p1, p2, p3, rfl, rfl, rfl, h0, h1, h2, h3⟩ := trodAll_four hA
  obtain ⟨rfl, rfl⟩ := trodVars_none hV
  have lt0 : ∀ x ∈ p0, x.block < W.heap.size := by obtain ⟨m, hm⟩ := h0; exact DataW.trod_lt m _ _ _ hm
  have lt1 : ∀ x ∈ p1, x.block < W.heap.size := by obtain ⟨m, hm⟩ := h1; exact DataW.trod_lt m _ _ _ hm
  have lt2 : ∀ x ∈ p2, x.block < W.heap.size := by obtain ⟨m, hm⟩ := h2; exact DataW.trod_lt m _ _ _ hm
  have lt3 : ∀ x ∈ p3, x.block < W.heap.size := by obtain ⟨m, hm⟩ := h3; exact DataW.trod_lt m _ _ _ hm
  obtain ⟨a, b, c, rfl⟩ := plan_inM (hval 0 23 v0 rfl rfl) h0
  obtain ⟨tv, pv, M, rfl, htn, hpn, hns, hM⟩ := mem_in (hval 1 27 v1 rfl rfl) h1
  obtain ⟨d, rfl, _, _⟩ := open_int Try.underlying2 (hval 2 2 v2 rfl rfl) h2
  obtain ⟨h, rfl, _, _, _⟩ := open_hand (hval 3 31 v3 rfl rfl) h3
  clear hA0 hval0
  have key : Calls Try.prog 3 #[.agg #[.int .i64 a, .int .i64 b, .int .i64 c], meV M.c tv pv, .int .i64 d, hdV h] W fun x w' => x = .returned (.bool true) ∧ Below W.heap.size W w' := by
    by_cases hs : sizeM M ≤ 1048576
    · exact fit_small a b c d h hs (Lib.hid (fun tv pv w hm => hSp a b c d h tv pv M w hs hm)) (Lib.hid (fun tv pv w hm => hI a b c d h tv pv M w hs hm)) hM
    · exact fit_big a b c d h htn hpn hns hs hM
  refine key.mono fun x W' ⟨he, hb⟩ => ?_
  subst he
  exact ⟨_, rfl, _, _, _, [], _, [], hW', trodAll_mk1 (shut_bool Try.underlying4 _), trodAll_mk4 (Below.trod laidOut (by kernel_rfl) (of_decide_eq_true (by kernel_rfl)) h0 hb lt0) (Below.trod laidOut (by kernel_rfl) (of_decide_eq_true (by kernel_rfl)) h1 hb lt1) (Below.trod laidOut (by kernel_rfl) (of_decide_eq_true (by kernel_rfl)) h2 hb lt2) (Below.trod laidOut (by kernel_rfl) (of_decide_eq_true (by kernel_rfl)) h3 hb lt3), rfl, hb.frame _, fun h => by cases h⟩

theorem exactFit_holds {gq : Int → Int → Int → Int → Me → Hd → Bool} (hSp : AsksFit gq 5) (hI : AsksFit gq 9) : Rows.FnExactFitSaid :=
  OpenClaim.holds_of_wide 3 Try.f3 rfl rfl rfl rfl rfl rfl rfl ⟨rfl, rfl, rfl, rfl, rfl⟩ rfl rfl rfl rfl rfl (by kernel_rfl) Try.func3 (by kernel_rfl)
    (of_decide_eq_true (by kernel_rfl)) (by unfold Func.isWrapper; rw [if_neg (of_decide_eq_false (by kernel_rfl))]; exact ⟨rfl, rfl⟩)
    (fun os started H enc _ => exactFit_lifted hSp hI os started H enc)

end Go.Proofs.Ytcfkginbkammoaa

/-
  A time, and that much later (chapter 1): the model's After.
-/
namespace Go.Proofs.Ytcfkginbkammoaa
open Go.RowKit
set_option linter.unusedVariables false

/-- a delay, cut -/
def dl (d : Int) : Int := if d < 0 then 0 else if 1000000000 < d then 1000000000 else d
def afterI (t d : Int) : Int := if inB t 0 1000000000 then (if 1000000000 < t + dl d then 1000000000 else t + dl d) else -1
theorem afterI_no {t d : Int} (h : inB t 0 1000000000 = false) : afterI t d = -1 := by simp [afterI, h]
theorem afterI_neg {t d : Int} (h : inB t 0 1000000000 = true) (h1 : d < 0) : afterI t d = t := by
  have := inB_iff.1 h
  simp only [afterI, h, dl, if_pos h1, if_true]
  split <;> omega
theorem afterI_far {t d : Int} (h : inB t 0 1000000000 = true) (h1 : 1000000000 < t + d) (h2 : 0 ≤ d) : afterI t d = 1000000000 := by
  have := inB_iff.1 h
  simp only [afterI, h, dl, if_true]
  split <;> split at * <;> (try split at *) <;> omega
theorem afterI_in {t d : Int} (h : inB t 0 1000000000 = true) (h1 : t + d ≤ 1000000000) (h2 : 0 ≤ d) : afterI t d = t + d := by
  have := inB_iff.1 h
  simp only [afterI, h, dl, if_true]
  split <;> split at * <;> (try split at *) <;> omega

theorem dl_eq (d : Int) : maxI 0 (minI d 1000000000) = dl d := by
  unfold maxI minI dl
  (repeat' split) <;> omega
theorem dl_bd (d : Int) : 0 ≤ dl d ∧ dl d ≤ 1000000000 := by unfold dl; split <;> (try split) <;> omega
theorem afterI_min {t d : Int} (h : inB t 0 1000000000 = true) : afterI t d = minI (t + dl d) 1000000000 := by
  simp only [afterI, h, minI, if_true]
  split <;> split <;> omega
end Go.Proofs.Ytcfkginbkammoaa

/-
  The steps of a worker, plainly (chapters 9 to 14): what comes of each. No Go in sight.
-/
namespace Go.Proofs.Ytcfkginbkammoaa
open Go.RowKit Go.Joins
set_option linter.unusedVariables false

/-! ### chapter 9 -/
/-- is the step fit? -/
def stepFit (a b c d : Int) (M : Me) (h : Hd) : Bool := memOkB a b c M && (handB a b c h && (workB a b c d && (h.tim == -1 || hasT M h.tim)))
def addTm (M : Me) (T : Tm) : Me := { M with tn := M.tn + 1, t := putT M.t M.tn T }
/-- locked by a worker, where it is free, and where the worker is then -/
def lockD (D : Dn) (d : Int) (k : Nat) (q : Int) : Dn := if (D.m.p k).l = -1 then ⟨setPc D.m k 1 d, { D.h with pos := q }, D.v⟩ else D
def unlockM (M : Me) (d : Int) (k : Nat) : Me := if (M.p k).l = d then setPc M k 1 (-1) else M
def evI (M : Me) (kind : Int) (t : Nat) (when : Int) : Et := ⟨kind, (t : Int), (M.t t).ge, when, M.c⟩
def newTm (D : Dn) : Tm := ⟨2, afterI D.m.c D.h.call.b, 0, D.h.call.c, -1, 0, D.h.call.a, 0⟩
def allocD (c : Int) (D : Dn) : Dn := if c ≤ (D.m.tn : Int) then ⟨D.m, restHd 4 0, D.v⟩ else ⟨addTm D.m (newTm D), { D.h with tim := (D.m.tn : Int), pos := 2 }, D.v⟩
def pushOk (D : Dn) : Bool := decide (0 ≤ D.h.tim) && armedB D.m D.h.tim.toNat
def keyedM (D : Dn) : Me := if D.h.call.code = 3 then setTm D.m D.h.tim.toNat 1 D.h.whe else D.m
def genM (M : Me) (t : Nat) : Me := setTm M t 5 (minI ((M.t t).ge + 1) 100000)
def pushedM (D : Dn) (k : Nat) : Me := pushM (genM (keyedM D) D.h.tim.toNat) D.h.tim.toNat k
def pushD (D : Dn) (k : Nat) : Dn := ⟨pushedM D k, { D.h with pos := 4 }, evI (pushedM D k) 1 D.h.tim.toNat ((pushedM D k).t D.h.tim.toNat).wh⟩
def freeD (D : Dn) (d : Int) (k : Nat) : Dn := ⟨unlockM D.m d k, if D.h.call.code = 3 then restHd 3 0 else restHd 1 (maxI D.h.tim 0), D.v⟩
def createB (D : Dn) : Bool := if D.h.pos = 1 then D.h.call.code == 1 else if D.h.pos = 2 then true else if D.h.pos = 3 then pushOk D else true
def createD (c d : Int) (k : Nat) (D : Dn) : Dn := if D.h.pos = 1 then allocD c D else if D.h.pos = 2 then lockD D d k 3 else if D.h.pos = 3 then pushD D k else freeD D d k
def homeN (a d : Int) : Nat := (d % a).toNat
def createQ (a b c d : Int) (M : Me) (h : Hd) : Bool := stepFit a b c d M h && (inB h.pos 1 4 && createB ⟨M, h, et0⟩)
def createG (a b c d : Int) (M : Me) (h : Hd) : Dn := if createQ a b c d M h then createD c d (homeN a d) ⟨M, h, et0⟩ else dn0

/-! ### chapter 10 -/
/-- when it will ring next, as it stands -/
def effT (t : Tm) : Int := if t.st = 1 ∨ t.st = 6 then t.wh else if t.st = 3 ∨ t.st = 4 then t.nx else -1
/-- about to be changed, and what is told of it -/
def claimD (D : Dn) (t : Nat) : Dn := ⟨setTm D.m t 0 2, { D.h with tim := (t : Int) }, if 0 ≤ effT (D.m.t t) then evI D.m 2 t (effT (D.m.t t)) else D.v⟩
def stopLookD (D : Dn) : Dn :=
  if hasT D.m D.h.call.a then
    (let t := D.h.call.a.toNat
     let s := (D.m.t t).st
     if s = 1 ∨ s = 3 ∨ s = 4 then ⟨(claimD D t).m, { (claimD D t).h with pos := 6 }, (claimD D t).v⟩ else if s = 2 ∨ s = 6 then D else ⟨D.m, restHd 3 0, D.v⟩)
  else ⟨D.m, restHd 5 0, D.v⟩
/-- is the hand's timer one that it may change where it stands in a heap? -/
def mineB (D : Dn) : Bool := decide (0 ≤ D.h.tim) && ((D.m.t D.h.tim.toNat).st == 2 && (D.m.t D.h.tim.toNat).pl != -1)
def turnD (D : Dn) : Dn :=
  let t := D.h.tim.toNat
  let k := (D.m.t t).pl.toNat
  ⟨setPc (setTm D.m t 0 5) k 3 ((D.m.p k).d + 1), restHd 2 0, D.v⟩
def stopB (D : Dn) : Bool := if D.h.pos = 5 then true else mineB D
def stopD (D : Dn) : Dn := if D.h.pos = 5 then stopLookD D else turnD D
def stopQ (a b c d : Int) (M : Me) (h : Hd) : Bool := stepFit a b c d M h && (((h.pos == 5 && h.call.code == 2) || h.pos == 6) && stopB ⟨M, h, et0⟩)
def stopG (a b c d : Int) (M : Me) (h : Hd) : Dn := if stopQ a b c d M h then stopD ⟨M, h, et0⟩ else dn0

/-! ### chapter 11 -/
def resetLookD (D : Dn) : Dn :=
  if hasT D.m D.h.call.a then
    (let t := D.h.call.a.toNat
     let s := (D.m.t t).st
     if s = 2 ∨ s = 6 then D else
     let E := claimD D t
     let h := { E.h with whe := afterI D.m.c D.h.call.b, pos := 7 }
     if s = 1 ∨ s = 3 ∨ s = 4 then ⟨E.m, { h with had := true }, E.v⟩ else
     if s = 5 then ⟨setPc E.m (D.m.t t).pl.toNat 3 ((D.m.p (D.m.t t).pl.toNat).d - 1), h, E.v⟩ else ⟨E.m, { h with pos := 2 }, E.v⟩)
  else ⟨D.m, restHd 5 0, D.v⟩
def keyM (D : Dn) : Me :=
  let t := D.h.tim.toNat
  let x := D.m.t t
  let k := x.pl.toNat
  let m := setTm (genM D.m t) t 2 D.h.whe
  if D.h.whe < x.wh then (let m2 := setTm m t 0 3; if (D.m.p k).e < 0 ∨ D.h.whe < (D.m.p k).e then setPc m2 k 2 D.h.whe else m2) else setTm m t 0 4
def keyD (D : Dn) : Dn := ⟨keyM D, if D.h.had then restHd 2 0 else restHd 3 0, evI (keyM D) 1 D.h.tim.toNat D.h.whe⟩
def resetB (D : Dn) : Bool := if D.h.pos = 5 then true else mineB D
def resetD (D : Dn) : Dn := if D.h.pos = 5 then resetLookD D else keyD D
def resetQ (a b c d : Int) (M : Me) (h : Hd) : Bool := stepFit a b c d M h && (((h.pos == 5 && h.call.code == 3) || h.pos == 7) && resetB ⟨M, h, et0⟩)
def resetG (a b c d : Int) (M : Me) (h : Hd) : Dn := if resetQ a b c d M h then resetD ⟨M, h, et0⟩ else dn0

/-! ### chapter 12 -/
def ringD (D : Dn) (k : Nat) : Dn :=
  if rungB D.m k then (let t := slotT D.m k 0; ⟨rungM D.m k, { D.h with tim := (t : Int), pos := 11 }, evI (rungM D.m k) 3 t ((rungM D.m k).t t).wh⟩) else
  if (D.m.p k).n = 0 then ⟨D.m, { D.h with pos := 13 }, D.v⟩ else
  let x := D.m.t (slotT D.m k 0)
  if x.st = 5 ∨ x.st = 3 ∨ x.st = 4 then ⟨D.m, { D.h with pos := 9 }, D.v⟩ else
  if x.st = 2 then (if D.m.c < x.wh then ⟨D.m, { D.h with pos := 13 }, D.v⟩ else D) else ⟨D.m, { D.h with pos := 13 }, D.v⟩
def tellD (D : Dn) : Dn :=
  let t := D.h.tim.toNat
  ⟨if (D.m.t t).ki = 0 ∧ (D.m.t t).ma = 0 then setTm D.m t 7 (D.m.c + 1) else D.m, { D.h with cnt := minI (D.h.cnt + 1) 1000, pos := 10 }, D.v⟩
def checkB (d : Int) (k : Nat) (D : Dn) : Bool :=
  !(inB D.h.pos 9 11 && (D.m.p k).l != d) && (!((D.h.pos == 11 || D.h.pos == 12) && decide (D.h.tim < 0)) &&
  (if D.h.pos = 11 then (D.m.t D.h.tim.toNat).pl == (k : Int) && rearmedB D.m D.h.tim.toNat else true))
def checkD (d : Int) (k : Nat) (D : Dn) : Dn :=
  if D.h.pos = 8 then lockD D d k 9 else
  if D.h.pos = 9 then ⟨tidiedM D.m k, if tidiedB D.m k then D.h else { D.h with pos := 10 }, D.v⟩ else
  if D.h.pos = 10 then ringD D k else
  if D.h.pos = 11 then ⟨rearmedM D.m D.h.tim.toNat, { D.h with pos := 12 }, D.v⟩ else
  if D.h.pos = 12 then tellD D else ⟨unlockM D.m d k, restHd 1 D.h.cnt, D.v⟩
def checkQ (a b c d : Int) (M : Me) (h : Hd) : Bool := stepFit a b c d M h && ((inB h.pos 8 13 && h.call.code == 4) && checkB d h.call.a.toNat ⟨M, h, et0⟩)
def checkG (a b c d : Int) (M : Me) (h : Hd) : Dn := if checkQ a b c d M h then checkD d h.call.a.toNat ⟨M, h, et0⟩ else dn0

/-! ### chapter 13 -/
def shiftB (d : Int) (p q : Nat) (D : Dn) : Bool :=
  ((D.m.p p).l == d && (D.m.p q).l == d) && !(decide (0 < (D.m.p p).n) && (D.m.t (slotT D.m p 0)).st == 6)
def shiftD (p q : Nat) (D : Dn) : Dn :=
  if (D.m.p p).n = 0 then ⟨setPc D.m p 2 (-1), { D.h with pos := 17 }, D.v⟩ else
  let t := slotT D.m p 0
  let x := D.m.t t
  if x.st = 2 then D else
  if x.st = 5 then ⟨dropM D.m p 0 t, D.h, D.v⟩ else
  let m := if x.st = 3 ∨ x.st = 4 then setTm D.m t 1 x.nx else D.m
  ⟨pushM (pullM m p 0) t q, { D.h with cnt := minI (D.h.cnt + 1) 1000 }, D.v⟩
def moveB (d : Int) (p q : Nat) (D : Dn) : Bool := if D.h.pos = 16 then shiftB d p q D else true
def moveD (d : Int) (p q : Nat) (D : Dn) : Dn :=
  if D.h.pos = 14 then lockD D d (min p q) 15 else if D.h.pos = 15 then lockD D d (max p q) 16 else
  if D.h.pos = 16 then shiftD p q D else ⟨unlockM (unlockM D.m d p) d q, restHd 1 D.h.cnt, D.v⟩
def moveQ (a b c d : Int) (M : Me) (h : Hd) : Bool := stepFit a b c d M h && ((inB h.pos 14 17 && h.call.code == 5) && moveB d h.call.a.toNat h.call.b.toNat ⟨M, h, et0⟩)
def moveG (a b c d : Int) (M : Me) (h : Hd) : Dn := if moveQ a b c d M h then moveD d h.call.a.toNat h.call.b.toNat ⟨M, h, et0⟩ else dn0

/-! ### chapter 14 -/
def takeD (D : Dn) : Dn :=
  if hasT D.m D.h.call.a then
    (let t := D.h.call.a.toNat
     if (D.m.t t).ma = 0 then ⟨D.m, restHd 3 0, D.v⟩ else ⟨setTm D.m t 7 0, restHd 2 ((D.m.t t).ma - 1), D.v⟩)
  else ⟨D.m, restHd 5 0, D.v⟩
def takeQ (a b c d : Int) (M : Me) (h : Hd) : Bool := stepFit a b c d M h && (inB h.pos 18 18 && h.call.code == 6)
def takeG (a b c d : Int) (M : Me) (h : Hd) : Dn := if takeQ a b c d M h then takeD ⟨M, h, et0⟩ else dn0
def anyQ (a b c d : Int) (M : Me) (h : Hd) : Bool :=
  if (h.pos = 5 ∧ h.call.code = 2) ∨ h.pos = 6 then stopQ a b c d M h else if h.pos = 5 ∨ h.pos = 7 then resetQ a b c d M h else
  if h.pos ≤ 4 then createQ a b c d M h else if h.pos ≤ 13 then checkQ a b c d M h else if h.pos ≤ 17 then moveQ a b c d M h else takeQ a b c d M h
def anyG (a b c d : Int) (M : Me) (h : Hd) : Dn :=
  if (h.pos = 5 ∧ h.call.code = 2) ∨ h.pos = 6 then stopG a b c d M h else if h.pos = 5 ∨ h.pos = 7 then resetG a b c d M h else
  if h.pos ≤ 4 then createG a b c d M h else if h.pos ≤ 13 then checkG a b c d M h else if h.pos ≤ 17 then moveG a b c d M h else takeG a b c d M h
def stepQ (a b c d : Int) (M : Me) (h : Hd) : Bool := anyQ a b c d M h && memOkB a b c (anyG a b c d M h).m
def stepG (a b c d : Int) (M : Me) (h : Hd) : Dn := if stepQ a b c d M h then anyG a b c d M h else dn0

/-! ### sizes -/
theorem stepFit_facts {a b c d : Int} {M : Me} {h : Hd} (hq : stepFit a b c d M h = true) : MemFacts a b c M := by
  rw [stepFit, Bool.and_eq_true] at hq
  exact memFacts hq.1
theorem near_sets (M : Me) (k j : Nat) (x : Int) : Near M (setPc M k j x) := ⟨rfl, rfl, rfl, fun i => by rw [setPc_n]; exact Nat.le_succ _⟩

end Go.Proofs.Ytcfkginbkammoaa

/-
  Is a step fit (spec, chapter 9).
-/
namespace Go.Proofs.Ytcfkginbkammoaa
open Go.Deep Go.ChangeShapes Go.WideShapes Go.ChangeAt Go.RowKit Go.Joins
set_option linter.unusedVariables false

set_option maxRecDepth 100000 in
set_option maxHeartbeats 8000000 in
theorem spFit_any (a b c d : Int) (h : Hd) {tv pv : Value} {M : Me} {w : World} (hs : sizeM M ≤ 1048576) (hm : MemAt w tv pv M) :
    Calls Try.prog 5 #[.agg #[.int .i64 a, .int .i64 b, .int .i64 c], meV M.c tv pv, .int .i64 d, hdV h] w fun e w' => e = .returned (.bool (stepFit a b c d M h)) ∧ Below w.heap.size w w' := by
  obtain ⟨va, vc, qa, qc, rfl, rfl⟩ := hm.form
  have hn := (sizeM_le hs).1
  have k0 := ((((Below.refl w.heap.size w).alloc (Nat.le_refl _) (.cells #[.int .i64 a, .int .i64 b, .int .i64 c] 34)).alloc (by simp) (.cells #[.int .i64 M.c, .slice va M.tn vc, .slice qa M.pn qc] 39)).alloc (by simp; omega) (.cells #[.int .i64 h.pos, .int .i64 h.call.code, .int .i64 h.call.a, .int .i64 h.call.b, .int .i64 h.call.c, .int .i64 h.tim, .int .i64 h.whe, .bool h.had, .int .i64 h.cnt, .int .i64 h.beg, .int .i64 h.rep, .int .i64 h.out] 43))
  have kk := Below.refl (((w.alloc (.cells #[.int .i64 a, .int .i64 b, .int .i64 c] 34)).alloc (.cells #[.int .i64 M.c, .slice va M.tn vc, .slice qa M.pn qc] 39)).alloc (.cells #[.int .i64 h.pos, .int .i64 h.call.code, .int .i64 h.call.a, .int .i64 h.call.b, .int .i64 h.call.c, .int .i64 h.tim, .int .i64 h.whe, .bool h.had, .int .i64 h.cnt, .int .i64 h.beg, .int .i64 h.rep, .int .i64 h.out] 43)).heap.size (((w.alloc (.cells #[.int .i64 a, .int .i64 b, .int .i64 c] 34)).alloc (.cells #[.int .i64 M.c, .slice va M.tn vc, .slice qa M.pn qc] 39)).alloc (.cells #[.int .i64 h.pos, .int .i64 h.call.code, .int .i64 h.call.a, .int .i64 h.call.b, .int .i64 h.call.c, .int .i64 h.tim, .int .i64 h.whe, .bool h.had, .int .i64 h.cnt, .int .i64 h.beg, .int .i64 h.rep, .int .i64 h.out] 43))
  have HM := Lib.hid (fun (w' : World) (hb : Below w.heap.size w w') => hm.below hb)
  clear hm
  cases h1 : memOkB a b c M
  · skip
    go_enter Try.func5, Try.ntmps5
    go_wp2_with (first
      | (go_at_call 13; refine (spMemOk_any _ _ _ hs (HM.out _ (k0.trans (kk.mono k0.size)))).mono ?_; rintro e w1 ⟨rfl, hb⟩; replace kk := kk.trans (hb.mono kk.size); clear hb; (try clear hc hf); obtain ⟨hc, hf⟩ := bcell kk)
      | (go_at_call 14; refine (spHandOk_any _ _ _ _ _).mono ?_; rintro e w1 ⟨rfl, hb⟩; replace kk := kk.trans (hb.mono kk.size); clear hb; (try clear hc hf); obtain ⟨hc, hf⟩ := bcell kk)
      | (go_at_call 15; refine (l1Worker_any _ _ _ _ _).mono ?_; rintro e w1 ⟨rfl, hb⟩; replace kk := kk.trans (hb.mono kk.size); clear hb; (try clear hc hf); obtain ⟨hc, hf⟩ := bcell kk)
      | (go_at_call 16; refine (l5Has_any ⟨_, _, rfl⟩ hn _ _).mono ?_; rintro e w1 ⟨rfl, hb⟩; replace kk := kk.trans (hb.mono kk.size); clear hb; (try clear hc hf); obtain ⟨hc, hf⟩ := bcell kk))
    go_ret
    exact ⟨ret_bool' (by simp [stepFit, h1]), k0.trans (kk.mono k0.size)⟩
  cases h2 : handB a b c h
  · skip
    go_enter Try.func5, Try.ntmps5
    go_wp2_with (first
      | (go_at_call 13; refine (spMemOk_any _ _ _ hs (HM.out _ (k0.trans (kk.mono k0.size)))).mono ?_; rintro e w1 ⟨rfl, hb⟩; replace kk := kk.trans (hb.mono kk.size); clear hb; (try clear hc hf); obtain ⟨hc, hf⟩ := bcell kk)
      | (go_at_call 14; refine (spHandOk_any _ _ _ _ _).mono ?_; rintro e w1 ⟨rfl, hb⟩; replace kk := kk.trans (hb.mono kk.size); clear hb; (try clear hc hf); obtain ⟨hc, hf⟩ := bcell kk)
      | (go_at_call 15; refine (l1Worker_any _ _ _ _ _).mono ?_; rintro e w1 ⟨rfl, hb⟩; replace kk := kk.trans (hb.mono kk.size); clear hb; (try clear hc hf); obtain ⟨hc, hf⟩ := bcell kk)
      | (go_at_call 16; refine (l5Has_any ⟨_, _, rfl⟩ hn _ _).mono ?_; rintro e w1 ⟨rfl, hb⟩; replace kk := kk.trans (hb.mono kk.size); clear hb; (try clear hc hf); obtain ⟨hc, hf⟩ := bcell kk))
    go_ret
    exact ⟨ret_bool' (by simp [stepFit, h1, h2]), k0.trans (kk.mono k0.size)⟩
  cases h3 : workB a b c d
  · skip
    go_enter Try.func5, Try.ntmps5
    go_wp2_with (first
      | (go_at_call 13; refine (spMemOk_any _ _ _ hs (HM.out _ (k0.trans (kk.mono k0.size)))).mono ?_; rintro e w1 ⟨rfl, hb⟩; replace kk := kk.trans (hb.mono kk.size); clear hb; (try clear hc hf); obtain ⟨hc, hf⟩ := bcell kk)
      | (go_at_call 14; refine (spHandOk_any _ _ _ _ _).mono ?_; rintro e w1 ⟨rfl, hb⟩; replace kk := kk.trans (hb.mono kk.size); clear hb; (try clear hc hf); obtain ⟨hc, hf⟩ := bcell kk)
      | (go_at_call 15; refine (l1Worker_any _ _ _ _ _).mono ?_; rintro e w1 ⟨rfl, hb⟩; replace kk := kk.trans (hb.mono kk.size); clear hb; (try clear hc hf); obtain ⟨hc, hf⟩ := bcell kk)
      | (go_at_call 16; refine (l5Has_any ⟨_, _, rfl⟩ hn _ _).mono ?_; rintro e w1 ⟨rfl, hb⟩; replace kk := kk.trans (hb.mono kk.size); clear hb; (try clear hc hf); obtain ⟨hc, hf⟩ := bcell kk))
    go_ret
    exact ⟨ret_bool' (by simp [stepFit, h1, h2, h3]), k0.trans (kk.mono k0.size)⟩
  by_cases h4 : h.tim = -1
  case pos =>
    have h4b : (h.tim == -1) = true := by simpa using h4
    have H4 := Lib.hid h4
    clear h4
    go_enter Try.func5, Try.ntmps5
    go_wp2_with (first
      | (go_at_call 13; refine (spMemOk_any _ _ _ hs (HM.out _ (k0.trans (kk.mono k0.size)))).mono ?_; rintro e w1 ⟨rfl, hb⟩; replace kk := kk.trans (hb.mono kk.size); clear hb; (try clear hc hf); obtain ⟨hc, hf⟩ := bcell kk)
      | (go_at_call 14; refine (spHandOk_any _ _ _ _ _).mono ?_; rintro e w1 ⟨rfl, hb⟩; replace kk := kk.trans (hb.mono kk.size); clear hb; (try clear hc hf); obtain ⟨hc, hf⟩ := bcell kk)
      | (go_at_call 15; refine (l1Worker_any _ _ _ _ _).mono ?_; rintro e w1 ⟨rfl, hb⟩; replace kk := kk.trans (hb.mono kk.size); clear hb; (try clear hc hf); obtain ⟨hc, hf⟩ := bcell kk)
      | (go_at_call 16; refine (l5Has_any ⟨_, _, rfl⟩ hn _ _).mono ?_; rintro e w1 ⟨rfl, hb⟩; replace kk := kk.trans (hb.mono kk.size); clear hb; (try clear hc hf); obtain ⟨hc, hf⟩ := bcell kk))
    go_ret
    exact ⟨ret_bool' (by simp [stepFit, h1, h2, h3, H4.out]), k0.trans (kk.mono k0.size)⟩
  have h4b : (h.tim == -1) = false := by simpa using h4
  go_enter Try.func5, Try.ntmps5
  go_wp2_with (first
    | (go_at_call 13; refine (spMemOk_any _ _ _ hs (HM.out _ (k0.trans (kk.mono k0.size)))).mono ?_; rintro e w1 ⟨rfl, hb⟩; replace kk := kk.trans (hb.mono kk.size); clear hb; (try clear hc hf); obtain ⟨hc, hf⟩ := bcell kk)
    | (go_at_call 14; refine (spHandOk_any _ _ _ _ _).mono ?_; rintro e w1 ⟨rfl, hb⟩; replace kk := kk.trans (hb.mono kk.size); clear hb; (try clear hc hf); obtain ⟨hc, hf⟩ := bcell kk)
    | (go_at_call 15; refine (l1Worker_any _ _ _ _ _).mono ?_; rintro e w1 ⟨rfl, hb⟩; replace kk := kk.trans (hb.mono kk.size); clear hb; (try clear hc hf); obtain ⟨hc, hf⟩ := bcell kk)
    | (go_at_call 16; refine (l5Has_any ⟨_, _, rfl⟩ hn _ _).mono ?_; rintro e w1 ⟨rfl, hb⟩; replace kk := kk.trans (hb.mono kk.size); clear hb; (try clear hc hf); obtain ⟨hc, hf⟩ := bcell kk))
  go_ret
  exact ⟨ret_bool' (by simp [stepFit, h1, h2, h3, h4]), k0.trans (kk.mono k0.size)⟩

end Go.Proofs.Ytcfkginbkammoaa

/-
  The same, in the program.
-/
namespace Go.Proofs.Ytcfkginbkammoaa
open Go.RowKit
set_option linter.unusedVariables false

set_option maxHeartbeats 400000 in
theorem within_any (n lo hi : Int) (w : World) :
    Calls Try.prog 47 #[.int .i64 n, .int .i64 lo, .int .i64 hi] w fun e w' => e = .returned (.bool (inB n lo hi)) ∧ w = w' := by
  by_cases h1 : lo ≤ n
  · by_cases h2 : n ≤ hi
    · rw [inB_t h1 h2]
      go_enter Try.func47, Try.ntmps47
      go_wp2
      go_ret
      exact ⟨rfl, rfl⟩
    · rw [inB_hi h2]
      go_enter Try.func47, Try.ntmps47
      go_wp2
      go_ret
      exact ⟨rfl, rfl⟩
  · rw [inB_lo h1]
    go_enter Try.func47, Try.ntmps47
    go_wp2
    go_ret
    exact ⟨rfl, rfl⟩

end Go.Proofs.Ytcfkginbkammoaa

/-
  Plans, times and processors, in the program.
-/
namespace Go.Proofs.Ytcfkginbkammoaa
open Go.RowKit
set_option linter.unusedVariables false

set_option maxHeartbeats 400000 in
theorem right_any (a b c : Int) (w : World) :
    Calls Try.prog 43 #[.agg #[.int .i64 a, .int .i64 b, .int .i64 c]] w fun e w' => e = .returned (.bool (planB a b c)) ∧ Below w.heap.size w w' := by
  cases h1 : inB a 1 6
  · have hp : planB a b c = false := by simp [planB, h1]
    rw [hp]
    go_enter Try.func43, Try.ntmps43
    go_wp2_with (go_at_call 47; refine (within_any _ _ _ _).mono ?_; rintro e w' ⟨rfl, rfl⟩)
    go_ret
    exact ⟨rfl, (Below.refl _ _).alloc (Nat.le_refl _) _⟩
  · cases h2 : inB b 1 8
    · have hp : planB a b c = false := by simp [planB, h1, h2]
      rw [hp]
      go_enter Try.func43, Try.ntmps43
      go_wp2_with (go_at_call 47; refine (within_any _ _ _ _).mono ?_; rintro e w' ⟨rfl, rfl⟩)
      go_ret
      exact ⟨rfl, (Below.refl _ _).alloc (Nat.le_refl _) _⟩
    · cases h3 : inB c 1 30
      · have hp : planB a b c = false := by simp [planB, h1, h2, h3]
        rw [hp]
        go_enter Try.func43, Try.ntmps43
        go_wp2_with (go_at_call 47; refine (within_any _ _ _ _).mono ?_; rintro e w' ⟨rfl, rfl⟩)
        go_ret
        exact ⟨rfl, (Below.refl _ _).alloc (Nat.le_refl _) _⟩
      · have hp : planB a b c = true := by simp [planB, h1, h2, h3]
        rw [hp]
        go_enter Try.func43, Try.ntmps43
        go_wp2_with (go_at_call 47; refine (within_any _ _ _ _).mono ?_; rintro e w' ⟨rfl, rfl⟩)
        go_ret
        exact ⟨rfl, (Below.refl _ _).alloc (Nat.le_refl _) _⟩

set_option maxHeartbeats 400000 in
theorem isTime_any (t : Int) (w : World) :
    Calls Try.prog 61 #[.int .i64 t] w fun e w' => e = .returned (.bool (inB t 0 1000000000)) ∧ w = w' := by
  go_enter Try.func61, Try.ntmps61
  go_wp2_with (go_at_call 47; refine (within_any _ _ _ _).mono ?_; rintro e w1 ⟨rfl, rfl⟩)
  go_ret
  exact ⟨rfl, rfl⟩

set_option maxHeartbeats 400000 in
theorem hasProc_any (a b c n : Int) (w : World) :
    Calls Try.prog 81 #[.agg #[.int .i64 a, .int .i64 b, .int .i64 c], .int .i64 n] w fun e w' => e = .returned (.bool (procB a b c n)) ∧ Below w.heap.size w w' := by
  cases h1 : planB a b c
  · rw [procB_no h1]
    go_enter Try.func81, Try.ntmps81
    go_wp2_with (go_at_call 43; refine (right_any _ _ _ _).mono ?_; rintro e w1 ⟨rfl, hb⟩)
    go_ret
    exact ⟨rfl, ((Below.refl _ _).alloc (Nat.le_refl _) _).trans (hb.mono (by simp))⟩
  · obtain ⟨⟨b2, b3⟩, b1, b4⟩ := planB_iff.1 h1
    cases h2 : inB n 0 (a - 1)
    · rw [procB_out h2]
      go_enter Try.func81, Try.ntmps81
      go_wp2_with (first
        | (go_at_call 43; refine (right_any _ _ _ _).mono ?_; rintro e w1 ⟨rfl, hb⟩; obtain ⟨hc, hf⟩ := bcell hb)
        | (go_at_call 47; refine (within_any _ _ _ _).mono ?_; rintro e w' ⟨rfl, rfl⟩))
      go_ret
      exact ⟨rfl, ((Below.refl _ _).alloc (Nat.le_refl _) _).trans (hb.mono (by simp))⟩
    · rw [procB_yes h1 h2]
      go_enter Try.func81, Try.ntmps81
      go_wp2_with (first
        | (go_at_call 43; refine (right_any _ _ _ _).mono ?_; rintro e w1 ⟨rfl, hb⟩; obtain ⟨hc, hf⟩ := bcell hb)
        | (go_at_call 47; refine (within_any _ _ _ _).mono ?_; rintro e w' ⟨rfl, rfl⟩))
      go_ret
      exact ⟨rfl, ((Below.refl _ _).alloc (Nat.le_refl _) _).trans (hb.mono (by simp))⟩

end Go.Proofs.Ytcfkginbkammoaa
