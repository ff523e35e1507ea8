/-
  FnSifts, told what the program's own functions answer.
-/
import Derived.Test.YtegmlabiodikpaaHeapExact2
import Derived.Test.YtegmlabiodikpaaHeapLike
namespace Go.Proofs.Ytegmlabiodikpaa
open Go.RowKit Go.Joins
set_option linter.unusedVariables false

set_option maxRecDepth 100000 in
set_option maxHeartbeats 4000000 in
theorem sifts_small (hRa : Sifts 19 raisedF) (hSu : Sifts 20 sunkF) (hPu : Pushes 14) (hPl : Pulls 17) (hOk : AsksB 15 heapB) (hFi : AsksI 16 findM)
    {len : Nat} {sl : Value} {w : World} (hlen : len ≤ 4096) (hsl : ∃ a cap, sl = .slice a len cap) (hcode : CodeAt w w.heap.size sl len) :
    Calls Try.prog 4 #[sl] w fun e w' => e = .returned (.bool true) ∧ Below w.heap.size w w' := by
  obtain ⟨a0, cap, rfl⟩ := hsl
  have HC := Lib.hid hcode
  have K := Below.refl w.heap.size w
  clear hcode
  go_enter Try.func4, Try.ntmps4
  go_wp2_with (go_at_call 11; go_in)
  go_at_call 18; refine (drawRaised_any hlen (HC.out.below K) K.size).mono ?_; rintro e w1 ⟨v0, n0, f0, i0, rfl, hO, hNear, hb⟩
  replace K := K.trans (hb.mono K.size); have R0 := hO.row.lt; clear hb
  have hn0 : n0 ≤ 1048576 := by have := hNear.1; omega
  have HB := Lib.hid (sift_heap hNear)
  clear hO hNear
  obtain ⟨va0, vc0, hv0⟩ := R0.row.form
  subst hv0
  go_wp2_with fail
  go_at_call 19; refine (hRa _ _ _ i0 _ hn0 R0.row).mono ?_; rintro e w2 ⟨va, rfl, hO, hb⟩
  replace K := K.trans (hb.mono K.size); replace R0 := R0.step hb; have RA := hO.row.lt; clear hb
  clear hO
  go_wp2_with fail
  go_at_call 20; refine (hSu _ _ _ i0 _ hn0 RA.row).mono ?_; rintro e w3 ⟨vb, rfl, hO, hb⟩
  replace K := K.trans (hb.mono K.size); replace R0 := R0.step hb; replace RA := RA.step hb; have RB := hO.row.lt; clear hb
  clear hO
  go_wp2_with fail
  go_at_call 21; refine (drawSunk_any hlen (HC.out.below K) K.size).mono ?_; rintro e w4 ⟨vu, n1, f1, j, rfl, hO, hNear, hb⟩
  replace K := K.trans (hb.mono K.size); replace R0 := R0.step hb; replace RA := RA.step hb; replace RB := RB.step hb; have RU := hO.row.lt; clear hb
  have hn1 : n1 ≤ 1048576 := by have := hNear.1; omega
  clear hO hNear
  go_wp2_with fail
  go_at_call 22; refine (drawPushed_any hlen (HC.out.below K) K.size).mono ?_; rintro e w5 ⟨vv, n2, f2, sa, sb, rfl, hO, hn2, hb⟩
  replace K := K.trans (hb.mono K.size); replace R0 := R0.step hb; replace RA := RA.step hb; replace RB := RB.step hb; replace RU := RU.step hb; have RV := hO.row.lt; clear hb
  replace hn2 : n2 ≤ 1048576 := by omega
  have hn2p := pushedN_le hn2
  clear hO
  have hb := (Below.refl w5.heap.size w5).alloc (Nat.le_refl _) (.cells #[.int .i64 sa, .int .i64 sb] 30)
  have A1 := Lib.hid (heap_alloc_new w5 (.cells #[.int .i64 sa, .int .i64 sb] 30))
  replace K := K.trans (hb.mono K.size); replace R0 := R0.step hb; replace RA := RA.step hb; replace RB := RB.step hb; replace RU := RU.step hb; replace RV := RV.step hb; clear hb
  have a0 : (w5.alloc (.cells #[.int .i64 sa, .int .i64 sb] 30)).cell? ⟨w5.heap.size, 0, none⟩ = some (.int .i64 sa) := cell_of_block A1.out 0
  have a1 : (w5.alloc (.cells #[.int .i64 sa, .int .i64 sb] 30)).cell? ⟨w5.heap.size, 1, none⟩ = some (.int .i64 sb) := cell_of_block A1.out 1
  go_wp2_with fail
  go_at_call 14; refine (hPu _ _ _ sa sb _ hn2 RV.row).mono ?_; rintro e w6 ⟨vx, rfl, hO, hb⟩
  replace K := K.trans (hb.mono K.size); replace R0 := R0.step hb; replace RA := RA.step hb; replace RB := RB.step hb; replace RU := RU.step hb; replace RV := RV.step hb; replace A1 := Lib.hid (blk_step A1.out hb); have RX := hO.row.lt; clear hb
  clear hO a0 a1
  have a0 : w6.cell? ⟨w5.heap.size, 0, none⟩ = some (.int .i64 sa) := cell_of_block A1.out 0
  have a1 : w6.cell? ⟨w5.heap.size, 1, none⟩ = some (.int .i64 sb) := cell_of_block A1.out 1
  go_wp2_with fail
  go_at_call 23; refine (spPushed_any sa sb hn2 RV.row).mono ?_; rintro e w7 ⟨vy, rfl, hO, hb⟩
  replace K := K.trans (hb.mono K.size); replace R0 := R0.step hb; replace RA := RA.step hb; replace RB := RB.step hb; replace RU := RU.step hb; replace RX := RX.step hb; replace A1 := Lib.hid (blk_step A1.out hb); have RY := hO.row.lt; clear hb
  clear RV
  clear hO a0 a1 A1
  go_wp2_with fail
  go_at_call 24; refine (drawPulled_any hlen (HC.out.below K) K.size).mono ?_; rintro e w8 ⟨ve, n3, f3, k, rfl, hO, hn3, hb⟩
  replace K := K.trans (hb.mono K.size); replace R0 := R0.step hb; replace RA := RA.step hb; replace RB := RB.step hb; replace RU := RU.step hb; replace RX := RX.step hb; replace RY := RY.step hb; have RE := hO.row.lt; clear hb
  replace hn3 : n3 ≤ 1048576 := by omega
  have hn3p := pulledN_le k hn3
  clear hO
  go_wp2_with fail
  go_at_call 17; refine (hPl _ _ _ k _ hn3 RE.row).mono ?_; rintro e w9 ⟨vf, rfl, hO, hb⟩
  replace K := K.trans (hb.mono K.size); replace R0 := R0.step hb; replace RA := RA.step hb; replace RB := RB.step hb; replace RU := RU.step hb; replace RX := RX.step hb; replace RY := RY.step hb; replace RE := RE.step hb; have RF := hO.row.lt; clear hb
  clear hO
  have hb := (Below.refl w9.heap.size w9).alloc (Nat.le_refl _) (.cells #[.int .i64 (pulledS f3 n3 k).1, .int .i64 (pulledS f3 n3 k).2] 30)
  have B1 := Lib.hid (heap_alloc_new w9 (.cells #[.int .i64 (pulledS f3 n3 k).1, .int .i64 (pulledS f3 n3 k).2] 30))
  replace K := K.trans (hb.mono K.size); replace R0 := R0.step hb; replace RA := RA.step hb; replace RB := RB.step hb; replace RU := RU.step hb; replace RX := RX.step hb; replace RY := RY.step hb; replace RE := RE.step hb; replace RF := RF.step hb; clear hb
  go_wp2_with fail
  go_at_call 25; refine (spPulled_any k hn3 RE.row).mono ?_; rintro e w10 ⟨vg, rfl, hO, hb⟩
  replace K := K.trans (hb.mono K.size); replace R0 := R0.step hb; replace RA := RA.step hb; replace RB := RB.step hb; replace RU := RU.step hb; replace RX := RX.step hb; replace RY := RY.step hb; replace RE := RE.step hb; replace RF := RF.step hb; replace B1 := Lib.hid (blk_step B1.out hb); have RG := hO.row.lt; clear hb
  clear hO
  have hb := (Below.refl w10.heap.size w10).alloc (Nat.le_refl _) (.cells #[.int .i64 (pulledS f3 n3 k).1, .int .i64 (pulledS f3 n3 k).2] 30)
  have B2 := Lib.hid (heap_alloc_new w10 (.cells #[.int .i64 (pulledS f3 n3 k).1, .int .i64 (pulledS f3 n3 k).2] 30))
  replace K := K.trans (hb.mono K.size); replace R0 := R0.step hb; replace RA := RA.step hb; replace RB := RB.step hb; replace RU := RU.step hb; replace RX := RX.step hb; replace RY := RY.step hb; replace RE := RE.step hb; replace RF := RF.step hb; replace RG := RG.step hb; replace B1 := Lib.hid (blk_step B1.out hb); clear hb
  go_wp2_with fail
  go_at_call 26; refine (drawFind_any hlen (HC.out.below K) K.size).mono ?_; rintro e w11 ⟨vh, n4, f4, id, rfl, hO, hn4, hb⟩
  replace K := K.trans (hb.mono K.size); replace R0 := R0.step hb; replace RA := RA.step hb; replace RB := RB.step hb; replace RU := RU.step hb; replace RX := RX.step hb; replace RY := RY.step hb; replace RE := RE.step hb; replace RF := RF.step hb; replace RG := RG.step hb; replace B1 := Lib.hid (blk_step B1.out hb); replace B2 := Lib.hid (blk_step B2.out hb); have RH := hO.row.lt; clear hb
  replace hn4 : n4 ≤ 1048576 := by omega
  clear hO
  go_wp2_with fail
  go_at_call 28; refine (spRaised_any i0 hn0 R0.row).mono ?_; rintro e w12 ⟨vq, rfl, hO, hb⟩
  replace K := K.trans (hb.mono K.size); replace RA := RA.step hb; replace RB := RB.step hb; replace RU := RU.step hb; replace RX := RX.step hb; replace RY := RY.step hb; replace RE := RE.step hb; replace RF := RF.step hb; replace RG := RG.step hb; replace RH := RH.step hb; replace B1 := Lib.hid (blk_step B1.out hb); replace B2 := Lib.hid (blk_step B2.out hb); have RQ := hO.row.lt; clear hb
  clear R0
  clear hO
  go_wp2_with fail
  go_at_call 27; refine (like_low hn0 RA.row RQ.row).mono ?_; rintro e w13 ⟨rfl, hb⟩
  replace K := K.trans (hb.mono K.size); replace RB := RB.step hb; replace RU := RU.step hb; replace RX := RX.step hb; replace RY := RY.step hb; replace RE := RE.step hb; replace RF := RF.step hb; replace RG := RG.step hb; replace RH := RH.step hb; replace B1 := Lib.hid (blk_step B1.out hb); replace B2 := Lib.hid (blk_step B2.out hb); clear hb
  clear RA RQ
  go_wp2_with fail
  go_at_call 20; refine (hSu _ _ _ j _ hn1 RU.row).mono ?_; rintro e w14 ⟨vq1, rfl, hO, hb⟩
  replace K := K.trans (hb.mono K.size); replace RB := RB.step hb; replace RU := RU.step hb; replace RX := RX.step hb; replace RY := RY.step hb; replace RE := RE.step hb; replace RF := RF.step hb; replace RG := RG.step hb; replace RH := RH.step hb; replace B1 := Lib.hid (blk_step B1.out hb); replace B2 := Lib.hid (blk_step B2.out hb); have RA := hO.row.lt; clear hb
  clear hO
  go_wp2_with fail
  go_at_call 29; refine (spSunk_any j hn1 RU.row).mono ?_; rintro e w15 ⟨vq2, rfl, hO, hb⟩
  replace K := K.trans (hb.mono K.size); replace RB := RB.step hb; replace RX := RX.step hb; replace RY := RY.step hb; replace RE := RE.step hb; replace RF := RF.step hb; replace RG := RG.step hb; replace RH := RH.step hb; replace RA := RA.step hb; replace B1 := Lib.hid (blk_step B1.out hb); replace B2 := Lib.hid (blk_step B2.out hb); have RQ := hO.row.lt; clear hb
  clear RU
  clear hO
  go_wp2_with fail
  go_at_call 27; refine (like_low hn1 RA.row RQ.row).mono ?_; rintro e w16 ⟨rfl, hb⟩
  replace K := K.trans (hb.mono K.size); replace RB := RB.step hb; replace RX := RX.step hb; replace RY := RY.step hb; replace RE := RE.step hb; replace RF := RF.step hb; replace RG := RG.step hb; replace RH := RH.step hb; replace B1 := Lib.hid (blk_step B1.out hb); replace B2 := Lib.hid (blk_step B2.out hb); clear hb
  clear RA RQ
  go_wp2_with fail
  go_at_call 27; refine (like_low hn2p RX.row RY.row).mono ?_; rintro e w17 ⟨rfl, hb⟩
  replace K := K.trans (hb.mono K.size); replace RB := RB.step hb; replace RE := RE.step hb; replace RF := RF.step hb; replace RG := RG.step hb; replace RH := RH.step hb; replace B1 := Lib.hid (blk_step B1.out hb); replace B2 := Lib.hid (blk_step B2.out hb); clear hb
  clear RX RY
  have b0 : w17.cell? ⟨w9.heap.size, 0, none⟩ = some (.int .i64 (pulledS f3 n3 k).1) := cell_of_block B1.out 0
  have b1 : w17.cell? ⟨w9.heap.size, 1, none⟩ = some (.int .i64 (pulledS f3 n3 k).2) := cell_of_block B1.out 1
  have c0 : w17.cell? ⟨w10.heap.size, 0, none⟩ = some (.int .i64 (pulledS f3 n3 k).1) := cell_of_block B2.out 0
  have c1 : w17.cell? ⟨w10.heap.size, 1, none⟩ = some (.int .i64 (pulledS f3 n3 k).2) := cell_of_block B2.out 1
  go_wp2_with fail
  go_at_call 27; refine (like_low hn3p RF.row RG.row).mono ?_; rintro e w18 ⟨rfl, hb⟩
  replace K := K.trans (hb.mono K.size); replace RB := RB.step hb; replace RE := RE.step hb; replace RH := RH.step hb; replace B1 := Lib.hid (blk_step B1.out hb); replace B2 := Lib.hid (blk_step B2.out hb); clear hb
  clear RF RG
  clear b0 b1 c0 c1 B1 B2
  go_wp2_with fail
  go_at_call 16; refine (hFi _ _ _ id _ hn4 RH.row).mono ?_; rintro e w19 ⟨rfl, hb⟩
  replace K := K.trans (hb.mono K.size); replace RB := RB.step hb; replace RE := RE.step hb; replace RH := RH.step hb; clear hb
  go_wp2_with fail
  go_at_call 30; refine (spFindSlot_low f4 id hn4 RH.row).mono ?_; rintro e w20 ⟨rfl, hb⟩
  replace K := K.trans (hb.mono K.size); replace RB := RB.step hb; replace RE := RE.step hb; clear hb
  clear RH
  obtain ⟨vab, vcb, hvb⟩ := RB.row.form
  subst hvb
  go_wp2_with fail
  go_at_call 15; refine (hOk _ _ _ _ hn0 RB.row).mono ?_; rintro e w21 ⟨rfl, hb⟩
  replace K := K.trans (hb.mono K.size); replace RE := RE.step hb; clear hb
  clear RB
  rw [HB.out]
  go_wp2_with fail
  go_at_call 15; refine (hOk _ _ _ _ hn3 RE.row).mono ?_; rintro e w22 ⟨rfl, hb⟩
  replace K := K.trans (hb.mono K.size); replace RE := RE.step hb; clear hb
  go_wp2_with fail
  go_at_call 31; refine (spHeapOk_low f3 hn3 RE.row).mono ?_; rintro e w23 ⟨rfl, hb⟩
  replace K := K.trans (hb.mono K.size); clear hb
  clear RE
  go_wp2
  go_ret
  exact ⟨rfl, K⟩

end Go.Proofs.Ytegmlabiodikpaa
