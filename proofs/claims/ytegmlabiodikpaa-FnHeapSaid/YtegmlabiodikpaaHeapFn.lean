/-
  FnHeap, told what the program's own functions answer.
-/
import Derived.Test.YtegmlabiodikpaaHeapExact2
import Derived.Test.YtegmlabiodikpaaHeapMath
import Derived.Test.YtegmlabiodikpaaDice
namespace Go.Proofs.Ytegmlabiodikpaa
open Go.RowKit Go.Joins
set_option linter.unusedVariables false

def keyOf : Int × Int → Int := fun s => s.2
theorem low_ge {f : Slots} {y : Int} {n : Nat} (h : sumF (isLow y) f n = 0) : ∀ k, k < n → y ≤ (f k).2 := by
  intro k hk
  have := sum_at (isLow_nonneg y) f n k hk
  rw [h] at this
  unfold isLow at this
  split at this <;> omega
theorem low_of_ge {f : Slots} {y : Int} {n : Nat} (h : ∀ k, k < n → y ≤ (f k).2) : sumF (isLow y) f n = 0 :=
  sum_zero f n (fun k hk => by unfold isLow; rw [if_neg (by have := h k hk; omega)])
theorem keys_nonneg {f : Slots} : ∀ n, (∀ k, k < n → 0 ≤ (f k).2) → 0 ≤ sumF keyOf f n
  | 0, _ => Int.le_refl _
  | n + 1, h => by
    have := keys_nonneg n (fun k hk => h k (by omega))
    have := h n (by omega)
    rw [sumF]
    unfold keyOf at *
    omega
theorem pushed_eq {f : Slots} {n : Nat} (s : Int × Int) (h : n < 30) : pushedF f n s = raiseF (putF f n s) n := by rw [pushedF, if_pos h]
theorem pulled_eq {f : Slots} {n k : Nat} (h : k < n) : pulledF f n (k : Int) = pulledFk f n k := by
  unfold pulledFk
  by_cases hl : k < n - 1
  · rw [if_pos hl, pulledF_mid hl, sunkF_has (hasB_iff.2 ⟨by omega, by omega⟩), raisedF_has (hasB_iff.2 ⟨by omega, by omega⟩), Int.toNat_natCast]
  · rw [if_neg hl, pulledF_last h hl]

theorem DiceAt.low {w w' : World} {B g len : Nat} {sl : Value} (h : DiceAt w B g sl len) (hb : Below w.heap.size w w') : DiceAt w' B g sl len := by
  have hl := h.lt
  obtain ⟨h1, h2, h3, k, x, hk, hh⟩ := h
  exact ⟨h1, h2, h3.below (hb.mono (by omega)), k, x, hk, (hb.block g hl).trans hh⟩

/-- how the law stands: the dice, the heap, and the sum of its keys -/
def HeapSt (W : World) (sl : Value) (len : Nat) (v : Value) (n : Nat) (f : Slots) (sum : Int) (wr : World) : Prop :=
  DiceAt wr W.heap.size W.heap.size sl len ∧ OwnRow wr (W.heap.size + 1) v n f ∧ Below W.heap.size W wr ∧ isHeap f n ∧ sumF keyOf f n = sum ∧ sumF (isLow 0) f n = 0 ∧ sum ≤ 600 ∧ n ≤ 20
/-- each name once -/
def once (f : Slots) (n : Nat) : Prop := ∀ x, sumF (isId x) f n ≤ 1
/-- the names from 0 to n, each once -/
def named (f : Slots) (n : Nat) : Prop := ∀ x : Int, sumF (isId x) f n = if 0 ≤ x ∧ x < n then 1 else 0

def lenOf : Value → Nat
  | .slice _ n _ => n
  | _ => 0
/-- the contracts that the law needs -/
def Pushes20 (fn : FuncId) (n : Nat) : Prop := ∀ (v : Value) (f : Slots) (a b : Int) (w : World), RowAt w v n f → Calls Try.prog fn #[v, .agg #[.int .i64 a, .int .i64 b]] w (NewRowB (n + 1) (raiseF (putF f n (a, b)) n) true w)
theorem pushes20 {fn : FuncId} (h : Pushes fn) {n : Nat} (hn : n < 30) : Pushes20 fn n := fun v f a b w hr => by
  have := h v n f a b w (by omega) hr
  rwa [pushedN, if_pos hn, pushed_eq _ hn, decide_eq_true hn] at this
def Pulls20 (fn : FuncId) (n k : Nat) : Prop := ∀ (v : Value) (f : Slots) (w : World), RowAt w v n f → Calls Try.prog fn #[v, .int .i64 (k : Int)] w (NewRowS (n - 1) (pulledFk f n k) (f k) true w)
theorem pulls20 {fn : FuncId} (h : Pulls fn) {n k : Nat} (hn : n ≤ 1048576) (hk : k < n) : Pulls20 fn n k := fun v f w hr => by
  have := h v n f (k : Int) w hn hr
  have hi : hasB n (k : Int) = true := hasB_iff.2 ⟨by omega, by omega⟩
  rwa [pulledN, pulledS, hi, if_pos rfl, if_pos rfl, Int.toNat_natCast, pulled_eq hk] at this

set_option maxRecDepth 100000 in
set_option maxHeartbeats 2000000 in
theorem heap_small (hPu : Pushes 14) (hPl : Pulls 17) (hOk : AsksB 15 heapB) (hFi : AsksI 16 findM)
    {len : Nat} {sl : Value} {w : World} (hlen : len ≤ 4096) (hsl : ∃ a cap, sl = .slice a len cap) (hcode : CodeAt w w.heap.size sl len) :
    Calls Try.prog 3 #[sl] w fun e w' => e = .returned (.bool true) ∧ Below w.heap.size w w' := by
  obtain ⟨a0, cap, rfl⟩ := hsl
  go_enter Try.func3, Try.ntmps3
  go_wp2_with (go_at_call 11; go_in)
  go_at_call 12; refine (roll_any 3 (by omega) (by omega) w.heap.size rfl hlen hcode (Nat.le_refl _)).mono ?_; rintro e w1 ⟨rfl, hD, hb⟩
  have hs := hD.lt
  have ha := (Below.refl w1.heap.size w1).alloc (Nat.le_refl _) (.cells #[] 30)
  have hO : OwnRow (w1.alloc (.cells #[] 30)) (w.heap.size + 1) (.slice (some ⟨w1.heap.size, 0, none⟩) 0 0) 0 (fun _ => (0, 0)) :=
    own_of_row (World.ownsRow_made w1 (base := w.heap.size + 1) (e := 30) (size := 2) #[] 0 hs (Nat.zero_le _) rfl)
  have St : HeapSt w (.slice a0 len cap) len (.slice (some ⟨w1.heap.size, 0, none⟩) 0 0) 0 (fun _ => (0, 0)) 0 (w1.alloc (.cells #[] 30)) :=
    ⟨hD.low ha, hO, hb.trans (ha.mono hb.size), fun k h1 h2 => by omega, rfl, rfl, by decide, by decide⟩
  have hNm : named (fun _ => (0, 0)) 0 := fun x => by rw [if_neg (by omega)]; rfl
  clear hO ha hb hD hcode
  go_wp2
  go_loopw [4, 5, 6] (fun hv sm i wr => ∃ (n : Nat) (f : Slots) (sum : Int), i = .int .i64 n ∧ sm = .int .i64 sum ∧ HeapSt w (.slice a0 len cap) len hv n f sum wr ∧ named f n ∧ sum ≤ 29 * n) (fun _ _ i _ => 20 - (intOf i).toNat)
  case atStart => exact ⟨0, _, 0, rfl, rfl, St, hNm, by decide⟩
  case round =>
    obtain ⟨n, f, sum, rfl, rfl, ⟨hD, hO, hb, hH, hS, hL, hs6, hn20⟩, hNm, hsn⟩ := hrel
    obtain ⟨va, vc, rfl⟩ := hO.row.form
    clear St
    have sb0 : 0 ≤ sum := hS ▸ keys_nonneg n (low_ge hL)
    by_cases hlt : n < 20
    · have i1 : (n : Int) < 20 := by omega
      go_wp2_with fail
      go_at_call 13; refine (below_any 30 (by omega) (by omega) hD).mono ?_; rintro e w2 ⟨x, x0, x1, rfl, hD2, hg⟩
      have hO2 := hO.kept hg (fun g e => by injection e; omega)
      have hb2 := hb.trans (b_grown hg (Nat.le_refl _) hb.size)
      have ha := (Below.refl w2.heap.size w2).alloc (Nat.le_refl _) (.cells #[.int .i64 (n : Int), .int .i64 x] 30)
      have A := Lib.hid (heap_alloc_new w2 (.cells #[.int .i64 (n : Int), .int .i64 x] 30))
      have hD3 := hD2.low ha
      have hO3 := hO2.below ha
      have hb3 := hb2.trans (ha.mono hb2.size)
      clear hD hO hb hg ha hD2 hO2 hb2
      go_wp2_with fail
      go_at_call 14; refine (pushes20 hPu (show n < 30 by omega) _ f (n : Int) x _ hO3.row).mono ?_; rintro e w4 ⟨v1, rfl, hG, hb⟩
      have hD4 := hD3.low hb
      have hO4 := hO3.below hb
      have hb4 := hb3.trans (hb.mono hb3.size)
      have A4 := Lib.hid (blk_step A.out hb)
      have hG4 := hG.mono (B' := w.heap.size + 1) hD3.lt
      clear hD3 hO3 hb3 hb A hG
      have hH' := push_heap hH ((n : Int), x)
      have hS' := push_sum keyOf f n ((n : Int), x)
      have hL' := push_sum (isLow 0) f n ((n : Int), x)
      have hI' := fun y => push_sum (isId y) f n ((n : Int), x)
      obtain ⟨f', hf'⟩ : ∃ f', f' = raiseF (putF f n ((n : Int), x)) n := ⟨_, rfl⟩
      rw [← hf'] at hG4 hH' hS' hL' hI'
      have hNm' : named f' (n + 1) := fun y => by
        rw [hI' y, hNm y]
        unfold isId
        by_cases h1 : (n : Int) = y
        · rw [if_neg (by omega), if_pos h1, if_pos (by omega)]; rfl
        · rw [if_neg h1]
          by_cases h2 : 0 ≤ y ∧ y < n
          · rw [if_pos h2, if_pos (by omega)]; rfl
          · rw [if_neg h2, if_neg (by omega)]; rfl
      have hL2 : sumF (isLow 0) f' (n + 1) = 0 := by rw [hL', hL]; unfold isLow; rw [if_neg (by omega)]; rfl
      have hS2 : sumF keyOf f' (n + 1) = sum + x := by rw [hS', hS]; rfl
      have hB' : heapB f' (n + 1) = true := heapB_iff.2 ⟨hH', by omega⟩
      have hF' : 0 ≤ findM f' (n + 1) (n : Int) := by
        obtain ⟨j, j1, j2⟩ := there_of_sum f' (n : Int) (n + 1) (by rw [hNm' (n : Int), if_pos (by omega)]; exact Int.le_refl _)
        exact find_some f' (n + 1) _ (n + 1) 0 (by omega) ⟨j, Nat.zero_le _, j1, j2⟩
      have St := Lib.hid (show (isHeap f' (n + 1) ∧ sumF keyOf f' (n + 1) = sum + x ∧ sumF (isLow 0) f' (n + 1) = 0) ∧ named f' (n + 1) from ⟨⟨hH', hS2, hL2⟩, hNm'⟩)
      have HB := Lib.hid hB'
      clear hf' hH hS hL hH' hS' hL' hI' hNm hNm' hL2 hS2 hB'
      obtain ⟨vb, vd, hv1⟩ := hG4.row.form
      subst hv1
      go_wp2_with fail
      go_at_call 15; refine (hOk _ _ _ _ (by omega) hG4.row).mono ?_; rintro e w5 ⟨rfl, hb⟩
      rw [HB.out]
      have hD5 := hD4.low hb
      have hG5 := hG4.below hb
      have hb5 := hb4.trans (hb.mono hb4.size)
      have A5 := Lib.hid (blk_step A4.out hb)
      clear hD4 hO4 hb4 hb A4 hG4 HB
      go_wp2_with fail
      go_at_call 16; refine (hFi _ _ _ _ _ (by omega) hG5.row).mono ?_; rintro e w6 ⟨rfl, hb⟩
      generalize findM f' (n + 1) (n : Int) = q at hF'
      have hD6 := hD5.low hb
      have hG6 := hG5.below hb
      have hb6 := hb5.trans (hb.mono hb5.size)
      have A6 := blk_step A5.out hb
      have c1 : w6.cell? ⟨w2.heap.size, 1, none⟩ = some (.int .i64 x) := cell_of_block A6 1
      have q1 : ¬ q < 0 := by omega
      clear hD5 hb5 hb A5 hG5 A6
      go_wp2
      exact ⟨⟨n + 1, f', sum + x, congrArg (Value.int .i64) (by omega), rfl, ⟨hD6, hG6, hb6, St.out.1.1, St.out.1.2.1, St.out.1.2.2, by omega, by omega⟩, St.out.2, by omega⟩, by simp only [intOf]; omega⟩
    · have h20 : 20 ≤ n := by omega
      have hOn : once f n := fun x => by rw [hNm x]; split <;> omega
      clear hNm hsn hlt
      have i1 : ¬ (n : Int) < 20 := by omega
      obtain ⟨wo, rfl⟩ : ∃ wo : World, wo = wr := ⟨_, rfl⟩
      have St := Lib.hid (show HeapSt w (.slice a0 len cap) len (.slice va n vc) n f sum wo from ⟨hD, hO, hb, hH, hS, hL, hs6, hn20⟩)
      clear hD hO hb hH hS hL hs6 sb0
      go_wp2
      go_loopw [4, 5, 10] (fun hv sm i wr => ∃ (n j : Nat) (f : Slots) (sum : Int), i = .int .i64 j ∧ sm = .int .i64 sum ∧ n + j = 20 ∧ j ≤ 5 ∧ HeapSt w (.slice a0 len cap) len hv n f sum wr ∧ once f n) (fun _ _ i _ => 5 - (intOf i).toNat)
      case atStart => exact ⟨n, 0, f, sum, rfl, rfl, by omega, by decide, St.out, hOn⟩
      case round =>
        clear St hOn
        obtain ⟨n, j, f, sum, rfl, rfl, hnj, hj5, ⟨hD, hO, hb, hH, hS, hL, hs6, hn20⟩, hOn⟩ := hrel
        obtain ⟨va, vc, rfl⟩ := hO.row.form
        have sb0 : 0 ≤ sum := hS ▸ keys_nonneg n (low_ge hL)
        by_cases hlt : j < 5
        · have i1 : (j : Int) < 5 := by omega
          have i2 : (1 : Int) ≤ (n : Int) := by omega
          have i3 : (n : Int) ≤ 20 := by omega
          go_wp2_with fail
          go_at_call 13; refine (below_any (n : Int) i2 (by omega) hD).mono ?_; rintro e w2 ⟨x, x0, x1, rfl, hD2, hg⟩
          have hO2 := hO.kept hg (fun g e => by injection e; omega)
          have hb2 := hb.trans (b_grown hg (Nat.le_refl _) hb.size)
          clear hD hO hb hg
          obtain ⟨k, rfl⟩ : ∃ k : Nat, x = k := ⟨x.toNat, by omega⟩
          have hk : k < n := by omega
          go_wp2_with fail
          go_at_call 17; refine (pulls20 hPl (show n ≤ 1048576 by omega) hk _ f _ hO2.row).mono ?_; rintro e w4 ⟨v1, rfl, hG, hb⟩
          have hD4 := hD2.low hb
          have hb4 := hb2.trans (hb.mono hb2.size)
          have hG4 := hG.mono (B' := w.heap.size + 1) hD2.lt
          clear hD2 hO2 hb2 hb hG
          have hH' := pull_heap hH hk
          have hS' := pull_sum keyOf (f := f) hk
          have hL' := pull_sum (isLow 0) (f := f) hk
          have hI' := fun y => pull_sum (isId y) (f := f) hk
          have hlow := low_ge hL k hk
          obtain ⟨f', hf'⟩ : ∃ f', f' = pulledFk f n k := ⟨_, rfl⟩
          rw [← hf'] at hG4 hH' hS' hL' hI'
          have hOn' : once f' (n - 1) := fun y => by
            have h1 := hI' y
            have h2 := hOn y
            have h3 := isId_nonneg y (f k)
            omega
          have hL2 : sumF (isLow 0) f' (n - 1) = 0 := by rw [hL', hL]; unfold isLow; rw [if_neg (by omega)]; rfl
          have hS2 : sumF keyOf f' (n - 1) = sum - (f k).2 := by rw [hS', hS]; rfl
          have hB' : heapB f' (n - 1) = true := heapB_iff.2 ⟨hH', by omega⟩
          have hF' : findM f' (n - 1) (f k).1 = -1 := by
            have hz : sumF (isId (f k).1) f' (n - 1) = 0 := by
              have h1 := hI' (f k).1
              have h2 := hOn (f k).1
              have h3 := sum_nonneg (isId_nonneg (f k).1) f' (n - 1)
              have h4 : isId (f k).1 (f k) = 1 := by unfold isId; rw [if_pos rfl]
              omega
            exact find_none f' (n - 1) _ (n - 1) 0 (by omega) (fun y _ hy => none_of_sum hz y hy)
          generalize f k = s at *
          have St := Lib.hid (show (isHeap f' (n - 1) ∧ sumF keyOf f' (n - 1) = sum - s.2 ∧ sumF (isLow 0) f' (n - 1) = 0) ∧ once f' (n - 1) from ⟨⟨hH', hS2, hL2⟩, hOn'⟩)
          have sb1 : 0 ≤ sum - s.2 := by rw [← hS2]; exact keys_nonneg (n - 1) (low_ge hL2)
          have HB := Lib.hid hB'
          have HF := Lib.hid hF'
          clear hf' hH hS hL hH' hS' hL' hI' hOn hOn' hL2 hS2 hB' hF'
          obtain ⟨vb, vd, hv1⟩ := hG4.row.form
          subst hv1
          have ha := (Below.refl w4.heap.size w4).alloc (Nat.le_refl _) (.cells #[.int .i64 s.1, .int .i64 s.2] 30)
          have A := Lib.hid (heap_alloc_new w4 (.cells #[.int .i64 s.1, .int .i64 s.2] 30))
          have hD5 := hD4.low ha
          have hG5 := hG4.below ha
          have hb5 := hb4.trans (ha.mono hb4.size)
          clear hD4 hG4 hb4 ha
          go_wp2_with fail
          go_at_call 15; refine (hOk _ _ _ _ (by omega) hG5.row).mono ?_; rintro e w5 ⟨rfl, hb⟩
          rw [HB.out]
          have hD6 := hD5.low hb
          have hG6 := hG5.below hb
          have hb6 := hb5.trans (hb.mono hb5.size)
          have A6 := Lib.hid (blk_step A.out hb)
          clear hD5 hG5 hb5 hb A HB
          have c0 : w5.cell? ⟨w4.heap.size, 0, none⟩ = some (.int .i64 s.1) := cell_of_block A6.out 0
          have e1 : IntKind.i64.wrap ((n : Int) - 1) = ((n - 1 : Nat) : Int) := by rw [IntKind.wrap_i64]; omega
          go_wp2_with fail
          go_at_call 16; refine (hFi _ _ _ _ _ (by omega) hG6.row).mono ?_; rintro e w6 ⟨rfl, hb⟩
          rw [HF.out]
          have hD7 := hD6.low hb
          have hG7 := hG6.below hb
          have hb7 := hb6.trans (hb.mono hb6.size)
          have A7 := blk_step A6.out hb
          have d1 : w6.cell? ⟨w4.heap.size, 1, none⟩ = some (.int .i64 s.2) := cell_of_block A7 1
          clear hD6 hG6 hb6 hb A6 A7 c0 HF e1
          go_wp2
          exact ⟨⟨n - 1, j + 1, f', sum - s.2, congrArg (Value.int .i64) (by omega), rfl, by omega, by omega, ⟨hD7, hG7, hb7, St.out.1.1, St.out.1.2.1, St.out.1.2.2, by omega, by omega⟩, St.out.2⟩, by simp only [intOf]; omega⟩
        · clear hOn hnj
          have i1 : ¬ (j : Int) < 5 := by omega
          obtain ⟨wo, rfl⟩ : ∃ wo : World, wo = wr := ⟨_, rfl⟩
          have St := Lib.hid (show HeapSt w (.slice a0 len cap) len (.slice va n vc) n f sum wo from ⟨hD, hO, hb, hH, hS, hL, hs6, hn20⟩)
          have HL := Lib.hid (show sumF (isLow (-1)) f n = 0 from low_of_ge (fun k hk => by have := low_ge hL k hk; omega))
          clear hD hO hb hH hS hL hs6 hn20 sb0
          go_wp2
          go_loopw [4, 5, 14] (fun hv sm la wr => ∃ (n : Nat) (f : Slots) (sum last : Int), la = .int .i64 last ∧ sm = .int .i64 sum ∧ lenOf hv = n ∧ HeapSt w (.slice a0 len cap) len hv n f sum wr ∧ sumF (isLow last) f n = 0) (fun hv _ _ _ => lenOf hv)
          case atStart => exact ⟨n, f, sum, -1, rfl, rfl, rfl, St.out, HL.out⟩
          case round =>
            clear St HL
            obtain ⟨n, f, sum, last, rfl, rfl, hle, ⟨hD, hO, hb, hH, hS, hL, hs6, hn20⟩, hLa⟩ := hrel
            obtain ⟨va, vc, rfl⟩ := hO.row.form
            clear hle
            have sb0 : 0 ≤ sum := hS ▸ keys_nonneg n (low_ge hL)
            by_cases hp : 0 < n
            · have i2 : (0 : Int) < (n : Int) := by omega
              have i3 : (n : Int) ≤ 20 := by omega
              go_wp2_with fail
              go_at_call 17; refine (pulls20 hPl (show n ≤ 1048576 by omega) hp _ f _ hO.row).mono ?_; rintro e w4 ⟨v1, rfl, hG, hb1⟩
              have hD4 := hD.low hb1
              have hb4 := hb.trans (hb1.mono hb.size)
              have hG4 := hG.mono (B' := w.heap.size + 1) hD.lt
              clear hD hO hb hb1 hG
              have hH' := pull_heap hH hp
              have hS' := pull_sum keyOf (f := f) hp
              have hL' := pull_sum (isLow 0) (f := f) hp
              have hT' := pull_sum (isLow (f 0).2) (f := f) hp
              have hlow := low_ge hL 0 hp
              have hlast := low_ge hLa 0 hp
              have htop : sumF (isLow (f 0).2) f n = 0 := low_of_ge (fun k hk => heap_top hH k hk)
              obtain ⟨f', hf'⟩ : ∃ f', f' = pulledFk f n 0 := ⟨_, rfl⟩
              rw [← hf'] at hG4 hH' hS' hL' hT'
              have hL2 : sumF (isLow 0) f' (n - 1) = 0 := by rw [hL', hL]; unfold isLow; rw [if_neg (by omega)]; rfl
              have hS2 : sumF keyOf f' (n - 1) = sum - (f 0).2 := by rw [hS', hS]; rfl
              have hT2 : sumF (isLow (f 0).2) f' (n - 1) = 0 := by rw [hT', htop]; unfold isLow; rw [if_neg (by omega)]; rfl
              generalize f 0 = s at *
              have sb1 : 0 ≤ sum - s.2 := by rw [← hS2]; exact keys_nonneg (n - 1) (low_ge hL2)
              have St := Lib.hid (show (isHeap f' (n - 1) ∧ sumF keyOf f' (n - 1) = sum - s.2 ∧ sumF (isLow 0) f' (n - 1) = 0) ∧ sumF (isLow s.2) f' (n - 1) = 0 from ⟨⟨hH', hS2, hL2⟩, hT2⟩)
              clear hf' hH hS hL hH' hS' hL' hT' hL2 hS2 hT2 htop hLa
              obtain ⟨vb, vd, hv1⟩ := hG4.row.form
              subst hv1
              have ha := (Below.refl w4.heap.size w4).alloc (Nat.le_refl _) (.cells #[.int .i64 s.1, .int .i64 s.2] 30)
              have A := heap_alloc_new w4 (.cells #[.int .i64 s.1, .int .i64 s.2] 30)
              have d1 : (w4.alloc (.cells #[.int .i64 s.1, .int .i64 s.2] 30)).cell? ⟨w4.heap.size, 1, none⟩ = some (.int .i64 s.2) := cell_of_block A 1
              have hD5 := hD4.low ha
              have hG5 := hG4.below ha
              have hb5 := hb4.trans (ha.mono hb4.size)
              have e1 : IntKind.i64.wrap ((n : Int) - 1) = ((n - 1 : Nat) : Int) := by rw [IntKind.wrap_i64]; omega
              have q1 : ¬ s.2 < last := by omega
              clear hD4 hG4 hb4 ha A
              go_wp2
              exact ⟨⟨n - 1, f', sum - s.2, s.2, rfl, rfl, rfl, ⟨hD5, hG5, hb5, St.out.1.1, St.out.1.2.1, St.out.1.2.2, by omega, by omega⟩, St.out.2⟩, by show n - 1 < n; omega⟩
            · have h0 : n = 0 := by omega
              subst h0
              have hz : sum = 0 := by rw [← hS]; rfl
              subst hz
              have i2 : ¬ (0 : Int) < ((0 : Nat) : Int) := by omega
              go_wp2
              go_ret
              exact ⟨rfl, hb⟩

set_option maxRecDepth 100000 in
set_option maxHeartbeats 400000 in
theorem heap_big (sl : Value) (len : Nat) (w : World) (hsl : ∃ a cap, sl = .slice a len cap) (hm : len ≤ maxLen) (hlen : 4096 < len) :
    Calls Try.prog 3 #[sl] w fun e w' => e = .returned (.bool true) ∧ Below w.heap.size w w' := by
  unfold maxLen at hm
  obtain ⟨a, cap, rfl⟩ := hsl
  go_enter Try.func3, Try.ntmps3
  go_wp2_with (go_at_call 11; go_in)
  go_ret
  exact ⟨rfl, Below.refl _ _⟩

/-- for every code the law returns true, told what the program's functions answer -/
theorem heap_walk (hPu : Pushes 14) (hPl : Pulls 17) (hOk : AsksB 15 heapB) (hFi : AsksI 16 findM)
    (sl : Value) (len : Nat) (w : World) (hm : len ≤ maxLen) (hsl : ∃ a cap, sl = .slice a len cap) (hcode : CodeAt w w.heap.size sl len) :
    Calls Try.prog 3 #[sl] w fun e w' => e = .returned (.bool true) ∧ Below w.heap.size w w' := by
  by_cases h : len ≤ 4096
  · exact heap_small hPu hPl hOk hFi h hsl hcode
  · exact heap_big sl len w hsl hm (by omega)

end Go.Proofs.Ytegmlabiodikpaa
