/-
  The program's generic list that is told what is less (chapter 2), at slots: sunk.
-/
import Derived.Test.YtflekodaiejflaaGreatL05
import Derived.Test.YtflekodaiejflaaGreatL06
import Derived.Test.YtflekodaiejflaaGreatL00
import Derived.Test.YtflekodaiejflaaGreatL01
import Derived.Test.YtflekodaiejflaaGreatL04
import Derived.OpenShut
import Derived.ChangeOld
namespace Go.Proofs.YtflekodaiejflaaGreat
open Go.RowKit Go.Joins
set_option linter.unusedVariables false
set_option linter.unusedSimpArgs false

end Go.Proofs.YtflekodaiejflaaGreat

/-
  The program's own functions on heaps (chapter 2): what HeapOk, RaisedFrom and SunkFrom answer.
-/
namespace Go.Proofs.YtflekodaiejflaaGreat
open Go.RowKit Go.Joins
set_option linter.unusedVariables false
set_option linter.unusedSimpArgs false

set_option maxRecDepth 100000 in
set_option maxHeartbeats 1000000 in
theorem iHeapOk_holds : AsksB 142 heapB := by
  intro v n f w hn h
  obtain ⟨a, cap, rfl⟩ := h.form
  have HR := Lib.hid h
  clear h
  by_cases h30 : n ≤ 30
  · have hle : (n : Int) ≤ 30 := by omega
    have hd : heapB f n = heapFrom f n 1 := by rw [heapB, decide_eq_true h30, Bool.and_true]
    rw [hd]
    cases ho : heapFrom f n 1
    all_goals
      have HO := Lib.hid ho
      clear hd ho
      go_enter Tryz.func142, Tryz.ntmps142
      go_wp2_with fail
      go_at_call 135; refine (heapFrom_any hn HR.out).mono ?_; rintro e w1 ⟨v1, rfl, hO, hb⟩
      go_wp2_with fail
      go_at_call 156; refine (hInOrder_any hn hO.row).mono ?_; rw [HO.out]; rintro e w2 ⟨rfl, hb2⟩
      have k2 := hb.trans (hb2.mono hb.size)
      clear hO hb hb2 HO
      go_wp2
      go_ret
      exact ⟨rfl, k2⟩
  · have hle : ¬ (n : Int) ≤ 30 := by omega
    have hd2 : decide (n ≤ 30) = false := by simp; omega
    have hd : heapB f n = false := by rw [heapB, hd2, Bool.and_false]
    rw [hd]
    clear hd
    go_enter Tryz.func142, Tryz.ntmps142
    go_wp2
    go_ret
    exact ⟨rfl, Below.refl _ _⟩

end Go.Proofs.YtflekodaiejflaaGreat

/-
  The exact laws on processors, told what the program's own functions answer.
-/
namespace Go.Proofs.YtflekodaiejflaaGreat
open Go.RowKit Go.Joins
set_option linter.unusedVariables false
set_option linter.unusedSimpArgs false

/-- what the program's WakeOf and ProcOk are to answer -/
def AsksW (fn : FuncId) : Prop := ∀ (v : Value) (n : Nat) (f : Slots) (l e d : Int) (w : World), n ≤ 1048576 → RowAt w v n f → Calls Tryz.prog fn #[prV v l e d] w fun x w' => x = .returned (.int .i64 (wakeI f n e)) ∧ Below w.heap.size w w'
def AsksR (fn : FuncId) : Prop := ∀ (a b c : Int) (v : Value) (n : Nat) (f : Slots) (l e d : Int) (w : World), n ≤ 1048576 → RowAt w v n f → Calls Tryz.prog fn #[.agg #[.int .i64 a, .int .i64 b, .int .i64 c], prV v l e d] w fun x w' => x = .returned (.bool (procOkB a b c f n l e d)) ∧ Below w.heap.size w w'

end Go.Proofs.YtflekodaiejflaaGreat

/-
  Processors, in the program (chapter 4): no Id twice, right, when to wake.
-/
namespace Go.Proofs.YtflekodaiejflaaGreat
open Go.RowKit Go.Joins
set_option linter.unusedVariables false
set_option linter.unusedSimpArgs false

theorem diffTo_iff {f : Slots} {i : Nat} : ∀ {k : Nat}, diffTo f i k = true ↔ ∀ q, q < k → (f q).1 ≠ (f i).1
  | 0 => by simp [diffTo]
  | k + 1 => by
    rw [diffTo, Bool.and_eq_true, diffTo_iff]
    constructor
    · rintro ⟨h1, h2⟩ q hq
      by_cases e : q = k
      · subst e
        intro h
        rw [h] at h2
        simp at h2
      · exact h1 q (by omega)
    · intro h
      refine ⟨fun q hq => h q (by omega), ?_⟩
      have := h k (by omega)
      simp only [Bool.not_eq_true', beq_eq_false_iff_ne, ne_eq]
      exact fun e => this e.symm
theorem find_past {f : Slots} {n : Nat} {id : Int} : ∀ j, j ≤ n → (∀ q, q < j → (f q).1 ≠ id) → findFrom f n id 0 = findFrom f n id j
  | 0, _, _ => rfl
  | j + 1, hj, h => by rw [find_past j (by omega) fun q hq => h q (by omega), findFrom_next (by omega) (h j (by omega))]
theorem find_self {f : Slots} {n k : Nat} (hk : k < n) (h : diffTo f k k = true) : findFrom f n (f k).1 0 = k := by
  rw [find_past k (Nat.le_of_lt hk) (diffTo_iff.1 h), findFrom_here hk rfl]
theorem find_other {f : Slots} {n k : Nat} (hk : k < n) (h : diffTo f k k = false) : findFrom f n (f k).1 0 ≠ k := by
  have hex : ¬ ∀ q, q < k → (f q).1 ≠ (f k).1 := fun hh => by rw [diffTo_iff.2 hh] at h; cases h
  have : ∀ c j, k - j ≤ c → j ≤ k → (∀ q, q < j → (f q).1 ≠ (f k).1) → findFrom f n (f k).1 0 ≠ k := by
    intro c
    induction c with
    | zero => intro j h1 h2 h3; exact absurd (show ∀ q, q < k → (f q).1 ≠ (f k).1 from fun q hq => h3 q (by omega)) hex
    | succ c ih =>
      intro j h1 h2 h3
      by_cases e : j = k
      · subst e; exact absurd h3 hex
      by_cases hj : (f j).1 = (f k).1
      · rw [find_past j (by omega) h3, findFrom_here (by omega) hj]
        omega
      · refine ih (j + 1) (by omega) (by omega) fun q hq => ?_
        by_cases e2 : q = j
        · subst e2; exact hj
        · exact h3 q (by omega)
  exact this k 0 (by omega) (Nat.zero_le _) fun q hq => absurd hq (Nat.not_lt_zero _)

set_option maxRecDepth 100000 in
set_option maxHeartbeats 1000000 in
theorem noIdTwice_any {v : Value} {n : Nat} {f : Slots} {w : World} (hn : n ≤ 1048576) (h : RowAt w v n f) :
    Calls Tryz.prog 143 #[v] w fun x w' => x = .returned (.bool (diffAll f n)) ∧ Below w.heap.size w w' := by
  obtain ⟨a, cap, hv⟩ := h.form
  have HR := Lib.hid h
  clear h
  subst hv
  go_enter Tryz.func143, Tryz.ntmps143
  go_wp2_with fail
  go_loopw [7] (fun i wr => ∃ k : Nat, k ≤ n ∧ i = .int .i64 k ∧ Below w.heap.size w wr ∧ Hid (diffAll f k = true)) (fun i _ => n - (intOf i).toNat)
  case atStart => exact ⟨0, Nat.zero_le _, rfl, Below.refl _ _, Lib.hid rfl⟩
  case round =>
    obtain ⟨k, hk, rfl, hbw, hd⟩ := hrel
    by_cases hlt : k < n
    · have hri := HR.out.below hbw
      rcases HR.out with ⟨h0, _⟩ | ⟨b, off, cap2, e2, hl, hc⟩
      · omega
      injection e2 with e2 _ e3
      subst e2
      have c0 := (hbw.cell (p := ⟨b, off + k * 2, none⟩) hl).trans (hc k hlt).1
      have c1 := (hbw.cell (p := ⟨b, off + k * 2 + 1, none⟩) hl).trans (hc k hlt).2
      have b2 : (k : Int) < (n : Int) := by omega
      clear hc
      have ka := hbw.alloc hbw.size (.cells #[.int .i64 (f k).1, .int .i64 (f k).2] 133)
      have hrA := hri.below ((Below.refl wr.heap.size wr).alloc (Nat.le_refl _) (.cells #[.int .i64 (f k).1, .int .i64 (f k).2] 133))
      subst e3
      cases hdk : diffTo f k k
      · have hbad := Lib.hid (show false = diffAll f n from (diffAll_bad (show diffAll f (k + 1) = false by rw [diffAll, hdk, Bool.and_false]) n (by omega)).symm)
        obtain ⟨r, hr⟩ : ∃ r, findM f n (f k).1 = r := ⟨_, rfl⟩
        have hne : (r != (k : Int)) = true := by
          have := find_other hlt hdk
          rw [bne_iff_ne, ← hr]
          exact this
        clear hd hdk
        go_wp2_with fail
        go_at_call 148; refine (iFindSlot_holds _ _ f _ _ hn hrA).mono ?_; rintro x w1 ⟨rfl, hb⟩
        rw [hr]
        clear hr
        go_wp2
        go_ret
        exact ⟨ret_bool hbad.out, ka.trans (hb.mono ka.size)⟩
      · have hnext := Lib.hid (show diffAll f (k + 1) = true by rw [diffAll, hd.out, hdk]; rfl)
        have hr : findM f n (f k).1 = k := find_self hlt hdk
        have hne : ((k : Int) != (k : Int)) = false := by simp
        clear hd hdk
        go_wp2_with fail
        go_at_call 148; refine (iFindSlot_holds _ _ f _ _ hn hrA).mono ?_; rintro x w1 ⟨rfl, hb⟩
        rw [hr]
        clear hr
        have kb := ka.trans (hb.mono ka.size)
        go_wp2
        exact ⟨⟨k + 1, by omega, by go_num, kb, hnext⟩, by simp only [intOf]; omega⟩
    · have hkn : k = n := by omega
      have hkd : decide (k < n) = false := by simp; omega
      have hall := Lib.hid (show true = diffAll f n by rw [← hkn]; exact hd.out.symm)
      clear hkn
      go_wp2
      go_ret
      exact ⟨ret_bool hall.out, hbw⟩

theorem procOkB_eq (a b c : Int) (f : Slots) (n : Nat) (l e d : Int) :
    procOkB a b c f n l e d = (planB a b c && ((((heapB f n && diffAll f n) && (l == -1 || workB a b c l)) && (e == -1 || inB e 0 1000000000)) && inB d 0 n)) := by
  unfold procOkB
  cases planB a b c <;> cases heapB f n <;> cases diffAll f n <;> cases (l == -1 || workB a b c l) <;> cases (e == -1 || inB e 0 1000000000) <;> cases inB d 0 n <;> rfl

/-- is it right, but for the plan? -/
def rightB (a b c : Int) (f : Slots) (n : Nat) (l e d : Int) : Bool :=
  (((heapB f n && diffAll f n) && (l == -1 || workB a b c l)) && (e == -1 || inB e 0 1000000000)) && inB d 0 n

set_option maxRecDepth 100000 in
set_option maxHeartbeats 2000000 in
theorem rightIn_any (a b c : Int) {v : Value} {n : Nat} {f : Slots} (l e d : Int) {w : World} (hn : n ≤ 1048576) (h : RowAt w v n f) :
    Calls Tryz.prog 127 #[pxV v l e d, .agg #[.int .i64 a, .int .i64 b, .int .i64 c]] w fun x w' => x = .returned (.bool (rightB a b c f n l e d)) ∧ Below w.heap.size w w' := by
  have k0 := (Below.refl w.heap.size w).alloc (Nat.le_refl _) (pxB v l e d)
  have k1 := k0.alloc k0.size (.cells #[.int .i64 a, .int .i64 b, .int .i64 c] 46)
  have HR := Lib.hid (h.below k1)
  have HX := Lib.hid (alloc_block (.cells #[.int .i64 a, .int .i64 b, .int .i64 c] 46) (heap_alloc_new w (pxB v l e d)))
  have hP := heap_alloc_new (w.alloc (pxB v l e d)) (.cells #[.int .i64 a, .int .i64 b, .int .i64 c] 46)
  rw [show (w.alloc (pxB v l e d)).heap.size = w.heap.size + 1 by simp] at hP
  have HP := Lib.hid hP
  have lX := lt_of_block HX.out
  have lP := lt_of_block hP
  clear hP
  obtain ⟨va, vc, hv⟩ := h.form
  have hform : ∃ a cap, v = .slice a n cap := h.form
  clear h
  subst hv
  have kw := Below.refl ((w.alloc (pxB (.slice va n vc) l e d)).alloc (.cells #[.int .i64 a, .int .i64 b, .int .i64 c] 46)).heap.size ((w.alloc (pxB (.slice va n vc) l e d)).alloc (.cells #[.int .i64 a, .int .i64 b, .int .i64 c] 46))
  cases h2 : heapB f n
  · rw [show rightB a b c f n l e d = false by simp only [rightB, h2]; rfl]
    go_enter Tryz.func127, Tryz.ntmps127
    go_wp2_with fail
    go_at_call 142; refine (iHeapOk_holds _ _ f _ hn HR.out).mono ?_; rintro x w1 ⟨rfl, hb⟩; rw [h2]
    replace kw := kw.trans (hb.mono kw.size)
    clear hb
    obtain ⟨x0, x1, x2, x3, _, _, _, _⟩ := four (b_block kw HX.out lX)
    go_wp2
    go_ret
    exact ⟨rfl, k1.trans (kw.mono k1.size)⟩
  cases h3 : diffAll f n
  · rw [show rightB a b c f n l e d = false by simp only [rightB, h2, h3]; rfl]
    go_enter Tryz.func127, Tryz.ntmps127
    go_wp2_with fail
    go_at_call 142; refine (iHeapOk_holds _ _ f _ hn HR.out).mono ?_; rintro x w1 ⟨rfl, hb⟩; rw [h2]
    replace kw := kw.trans (hb.mono kw.size)
    clear hb
    obtain ⟨x0, x1, x2, x3, _, _, _, _⟩ := four (b_block kw HX.out lX)
    obtain ⟨y0, y1, y2, _, _, _⟩ := three (b_block kw HP.out lP)
    go_wp2_with fail
    go_at_call 143; refine (noIdTwice_any hn (HR.out.below kw)).mono ?_; rintro x w1 ⟨rfl, hb⟩; rw [h3]
    replace kw := kw.trans (hb.mono kw.size)
    clear hb x0 x1 x2 x3 y0 y1 y2
    obtain ⟨x0, x1, x2, x3, _, _, _, _⟩ := four (b_block kw HX.out lX)
    go_wp2
    go_ret
    exact ⟨rfl, k1.trans (kw.mono k1.size)⟩
  cases h4 : (l == -1 || workB a b c l)
  · rw [show rightB a b c f n l e d = false by simp only [rightB, h2, h3, h4]; rfl]
    go_enter Tryz.func127, Tryz.ntmps127
    go_wp2_with fail
    go_at_call 142; refine (iHeapOk_holds _ _ f _ hn HR.out).mono ?_; rintro x w1 ⟨rfl, hb⟩; rw [h2]
    replace kw := kw.trans (hb.mono kw.size)
    clear hb
    obtain ⟨x0, x1, x2, x3, _, _, _, _⟩ := four (b_block kw HX.out lX)
    obtain ⟨y0, y1, y2, _, _, _⟩ := three (b_block kw HP.out lP)
    go_wp2_with fail
    go_at_call 143; refine (noIdTwice_any hn (HR.out.below kw)).mono ?_; rintro x w1 ⟨rfl, hb⟩; rw [h3]
    replace kw := kw.trans (hb.mono kw.size)
    clear hb x0 x1 x2 x3 y0 y1 y2
    obtain ⟨x0, x1, x2, x3, _, _, _, _⟩ := four (b_block kw HX.out lX)
    obtain ⟨y0, y1, y2, _, _, _⟩ := three (b_block kw HP.out lP)
    go_wp2_with fail
    go_at_call 144; refine (lockRight_any _ _ _ _ _ _ hform).mono ?_; rintro x w1 ⟨rfl, hb⟩; rw [h4]
    replace kw := kw.trans (hb.mono kw.size)
    clear hb x0 x1 x2 x3 y0 y1 y2
    obtain ⟨x0, x1, x2, x3, _, _, _, _⟩ := four (b_block kw HX.out lX)
    go_wp2
    go_ret
    exact ⟨rfl, k1.trans (kw.mono k1.size)⟩
  cases h5 : (e == -1 || inB e 0 1000000000)
  · rw [show rightB a b c f n l e d = false by simp only [rightB, h2, h3, h4, h5]; rfl]
    go_enter Tryz.func127, Tryz.ntmps127
    go_wp2_with fail
    go_at_call 142; refine (iHeapOk_holds _ _ f _ hn HR.out).mono ?_; rintro x w1 ⟨rfl, hb⟩; rw [h2]
    replace kw := kw.trans (hb.mono kw.size)
    clear hb
    obtain ⟨x0, x1, x2, x3, _, _, _, _⟩ := four (b_block kw HX.out lX)
    obtain ⟨y0, y1, y2, _, _, _⟩ := three (b_block kw HP.out lP)
    go_wp2_with fail
    go_at_call 143; refine (noIdTwice_any hn (HR.out.below kw)).mono ?_; rintro x w1 ⟨rfl, hb⟩; rw [h3]
    replace kw := kw.trans (hb.mono kw.size)
    clear hb x0 x1 x2 x3 y0 y1 y2
    obtain ⟨x0, x1, x2, x3, _, _, _, _⟩ := four (b_block kw HX.out lX)
    obtain ⟨y0, y1, y2, _, _, _⟩ := three (b_block kw HP.out lP)
    go_wp2_with fail
    go_at_call 144; refine (lockRight_any _ _ _ _ _ _ hform).mono ?_; rintro x w1 ⟨rfl, hb⟩; rw [h4]
    replace kw := kw.trans (hb.mono kw.size)
    clear hb x0 x1 x2 x3 y0 y1 y2
    obtain ⟨x0, x1, x2, x3, _, _, _, _⟩ := four (b_block kw HX.out lX)
    obtain ⟨y0, y1, y2, _, _, _⟩ := three (b_block kw HP.out lP)
    go_wp2_with fail
    go_at_call 145; refine (earliestRight_any _ _ _ hform).mono ?_; rintro x w1 ⟨rfl, hb⟩; rw [h5]
    replace kw := kw.trans (hb.mono kw.size)
    clear hb x0 x1 x2 x3 y0 y1 y2
    obtain ⟨x0, x1, x2, x3, _, _, _, _⟩ := four (b_block kw HX.out lX)
    go_wp2
    go_ret
    exact ⟨rfl, k1.trans (kw.mono k1.size)⟩
  cases h6 : inB d 0 n
  · rw [show rightB a b c f n l e d = false by simp only [rightB, h2, h3, h4, h5, h6]; rfl]
    go_enter Tryz.func127, Tryz.ntmps127
    go_wp2_with fail
    go_at_call 142; refine (iHeapOk_holds _ _ f _ hn HR.out).mono ?_; rintro x w1 ⟨rfl, hb⟩; rw [h2]
    replace kw := kw.trans (hb.mono kw.size)
    clear hb
    obtain ⟨x0, x1, x2, x3, _, _, _, _⟩ := four (b_block kw HX.out lX)
    obtain ⟨y0, y1, y2, _, _, _⟩ := three (b_block kw HP.out lP)
    go_wp2_with fail
    go_at_call 143; refine (noIdTwice_any hn (HR.out.below kw)).mono ?_; rintro x w1 ⟨rfl, hb⟩; rw [h3]
    replace kw := kw.trans (hb.mono kw.size)
    clear hb x0 x1 x2 x3 y0 y1 y2
    obtain ⟨x0, x1, x2, x3, _, _, _, _⟩ := four (b_block kw HX.out lX)
    obtain ⟨y0, y1, y2, _, _, _⟩ := three (b_block kw HP.out lP)
    go_wp2_with fail
    go_at_call 144; refine (lockRight_any _ _ _ _ _ _ hform).mono ?_; rintro x w1 ⟨rfl, hb⟩; rw [h4]
    replace kw := kw.trans (hb.mono kw.size)
    clear hb x0 x1 x2 x3 y0 y1 y2
    obtain ⟨x0, x1, x2, x3, _, _, _, _⟩ := four (b_block kw HX.out lX)
    obtain ⟨y0, y1, y2, _, _, _⟩ := three (b_block kw HP.out lP)
    go_wp2_with fail
    go_at_call 145; refine (earliestRight_any _ _ _ hform).mono ?_; rintro x w1 ⟨rfl, hb⟩; rw [h5]
    replace kw := kw.trans (hb.mono kw.size)
    clear hb x0 x1 x2 x3 y0 y1 y2
    obtain ⟨x0, x1, x2, x3, _, _, _, _⟩ := four (b_block kw HX.out lX)
    obtain ⟨y0, y1, y2, _, _, _⟩ := three (b_block kw HP.out lP)
    go_wp2_with fail
    go_at_call 146; refine (deletedRight_any _ _ _ hn hform).mono ?_; rintro x w1 ⟨rfl, hb⟩; rw [h6]
    replace kw := kw.trans (hb.mono kw.size)
    clear hb x0 x1 x2 x3 y0 y1 y2
    obtain ⟨x0, x1, x2, x3, _, _, _, _⟩ := four (b_block kw HX.out lX)
    go_wp2
    go_ret
    exact ⟨rfl, k1.trans (kw.mono k1.size)⟩
  rw [show rightB a b c f n l e d = true by simp only [rightB, h2, h3, h4, h5, h6]; rfl]
  go_enter Tryz.func127, Tryz.ntmps127
  go_wp2_with fail
  go_at_call 142; refine (iHeapOk_holds _ _ f _ hn HR.out).mono ?_; rintro x w1 ⟨rfl, hb⟩; rw [h2]
  replace kw := kw.trans (hb.mono kw.size)
  clear hb
  obtain ⟨x0, x1, x2, x3, _, _, _, _⟩ := four (b_block kw HX.out lX)
  obtain ⟨y0, y1, y2, _, _, _⟩ := three (b_block kw HP.out lP)
  go_wp2_with fail
  go_at_call 143; refine (noIdTwice_any hn (HR.out.below kw)).mono ?_; rintro x w1 ⟨rfl, hb⟩; rw [h3]
  replace kw := kw.trans (hb.mono kw.size)
  clear hb x0 x1 x2 x3 y0 y1 y2
  obtain ⟨x0, x1, x2, x3, _, _, _, _⟩ := four (b_block kw HX.out lX)
  obtain ⟨y0, y1, y2, _, _, _⟩ := three (b_block kw HP.out lP)
  go_wp2_with fail
  go_at_call 144; refine (lockRight_any _ _ _ _ _ _ hform).mono ?_; rintro x w1 ⟨rfl, hb⟩; rw [h4]
  replace kw := kw.trans (hb.mono kw.size)
  clear hb x0 x1 x2 x3 y0 y1 y2
  obtain ⟨x0, x1, x2, x3, _, _, _, _⟩ := four (b_block kw HX.out lX)
  obtain ⟨y0, y1, y2, _, _, _⟩ := three (b_block kw HP.out lP)
  go_wp2_with fail
  go_at_call 145; refine (earliestRight_any _ _ _ hform).mono ?_; rintro x w1 ⟨rfl, hb⟩; rw [h5]
  replace kw := kw.trans (hb.mono kw.size)
  clear hb x0 x1 x2 x3 y0 y1 y2
  obtain ⟨x0, x1, x2, x3, _, _, _, _⟩ := four (b_block kw HX.out lX)
  obtain ⟨y0, y1, y2, _, _, _⟩ := three (b_block kw HP.out lP)
  go_wp2_with fail
  go_at_call 146; refine (deletedRight_any _ _ _ hn hform).mono ?_; rintro x w1 ⟨rfl, hb⟩; rw [h6]
  replace kw := kw.trans (hb.mono kw.size)
  clear hb x0 x1 x2 x3 y0 y1 y2
  obtain ⟨x0, x1, x2, x3, _, _, _, _⟩ := four (b_block kw HX.out lX)
  go_wp2
  go_ret
  exact ⟨rfl, k1.trans (kw.mono k1.size)⟩


end Go.Proofs.YtflekodaiejflaaGreat

/-
  Timers, in the program: statuses, numbers, place, next.
-/
namespace Go.Proofs.YtflekodaiejflaaGreat
open Go.RowKit
set_option linter.unusedVariables false
set_option linter.unusedSimpArgs false

set_option maxHeartbeats 1000000 in
/-- is there such a status? -/
theorem known_any (s : Int) (w : World) :
    Calls Tryz.prog 155 #[.int .i64 s] w fun e w' => e = .returned (.bool (inB s 0 7)) ∧ w = w' := by
  by_cases h0 : s = 0
  · subst h0
    go_enter Tryz.func155, Tryz.ntmps155
    go_wp2_with (go_at_call 163; go_in)
    go_ret
    exact ⟨rfl, rfl⟩
  by_cases h1 : s = 1
  · subst h1
    go_enter Tryz.func155, Tryz.ntmps155
    go_wp2_with (go_at_call 163; go_in)
    go_ret
    exact ⟨rfl, rfl⟩
  by_cases h2 : s = 2
  · subst h2
    go_enter Tryz.func155, Tryz.ntmps155
    go_wp2_with (go_at_call 163; go_in)
    go_ret
    exact ⟨rfl, rfl⟩
  by_cases h3 : s = 3
  · subst h3
    go_enter Tryz.func155, Tryz.ntmps155
    go_wp2_with (go_at_call 163; go_in)
    go_ret
    exact ⟨rfl, rfl⟩
  by_cases h4 : s = 4
  · subst h4
    go_enter Tryz.func155, Tryz.ntmps155
    go_wp2_with (go_at_call 163; go_in)
    go_ret
    exact ⟨rfl, rfl⟩
  by_cases h5 : s = 5
  · subst h5
    go_enter Tryz.func155, Tryz.ntmps155
    go_wp2_with (go_at_call 163; go_in)
    go_ret
    exact ⟨rfl, rfl⟩
  by_cases h6 : s = 6
  · subst h6
    go_enter Tryz.func155, Tryz.ntmps155
    go_wp2_with (go_at_call 163; go_in)
    go_ret
    exact ⟨rfl, rfl⟩
  by_cases h7 : s = 7
  · subst h7
    go_enter Tryz.func155, Tryz.ntmps155
    go_wp2_with (go_at_call 163; go_in)
    go_ret
    exact ⟨rfl, rfl⟩
  have e : inB s 0 7 = false := by
    cases hx : inB s 0 7
    · rfl
    · have := inB_iff.1 hx; omega
  rw [e]
  have b0 : (s == 0) = false := by simpa using h0
  have b1 : (s == 1) = false := by simpa using h1
  have b2 : (s == 2) = false := by simpa using h2
  have b3 : (s == 3) = false := by simpa using h3
  have b4 : (s == 4) = false := by simpa using h4
  have b5 : (s == 5) = false := by simpa using h5
  have b6 : (s == 6) = false := by simpa using h6
  have b7 : (s == 7) = false := by simpa using h7
  go_enter Tryz.func155, Tryz.ntmps155
  go_wp2_with (go_at_call 163; go_in)
  go_ret
  exact ⟨rfl, rfl⟩

set_option maxHeartbeats 1000000 in
theorem stInHeap_any (s : Int) (w : World) :
    Calls Tryz.prog 154 #[.int .i64 s] w fun e w' => e = .returned (.bool (inHeapB s)) ∧ w = w' := by
  by_cases h1 : s = 1
  · subst h1
    go_enter Tryz.func154, Tryz.ntmps154
    go_wp2
    go_ret
    exact ⟨rfl, rfl⟩
  by_cases h3 : s = 3
  · subst h3
    go_enter Tryz.func154, Tryz.ntmps154
    go_wp2
    go_ret
    exact ⟨rfl, rfl⟩
  by_cases h4 : s = 4
  · subst h4
    go_enter Tryz.func154, Tryz.ntmps154
    go_wp2
    go_ret
    exact ⟨rfl, rfl⟩
  by_cases h5 : s = 5
  · subst h5
    go_enter Tryz.func154, Tryz.ntmps154
    go_wp2
    go_ret
    exact ⟨rfl, rfl⟩
  by_cases h6 : s = 6
  · subst h6
    go_enter Tryz.func154, Tryz.ntmps154
    go_wp2
    go_ret
    exact ⟨rfl, rfl⟩
  have e : inHeapB s = false := by simp [inHeapB, h1, h3, h4, h5, h6]
  rw [e]
  have b1 : (s == 1) = false := by simpa using h1
  have b3 : (s == 3) = false := by simpa using h3
  have b4 : (s == 4) = false := by simpa using h4
  have b5 : (s == 5) = false := by simpa using h5
  have b6 : (s == 6) = false := by simpa using h6
  go_enter Tryz.func154, Tryz.ntmps154
  go_wp2
  go_ret
  exact ⟨rfl, rfl⟩

/-- a timer's numbers -/
def numB (t : Tm) : Bool := inB t.wh 0 1000000000 && (inB t.nx 0 1000000000 && (inB t.pe 0 1000000000 && (inB t.ge 0 100000 && (inB t.ki 0 1 && inB t.ma 0 1000000001))))
/-- the place, as the program tells it -/
def putB (a b c : Int) (t : Tm) : Bool := if t.st = 2 then procB a b c t.pl || t.pl == -1 else if inHeapB t.st then procB a b c t.pl else inB t.st 0 7 && t.pl == -1

set_option maxRecDepth 100000 in
set_option maxHeartbeats 2000000 in
theorem numbers_any (t : Tm) (w : World) :
    Calls Tryz.prog 139 #[tmV t] w fun e w' => e = .returned (.bool (numB t)) ∧ Below w.heap.size w w' := by
  have k0 := (Below.refl w.heap.size w).alloc (Nat.le_refl _) (.cells #[.int .i64 t.st, .int .i64 t.wh, .int .i64 t.nx, .int .i64 t.pe, .int .i64 t.pl, .int .i64 t.ge, .int .i64 t.ki, .int .i64 t.ma] 90)
  cases h0 : inB t.wh 0 1000000000
  · rw [show numB t = false by simp [numB, h0]]
    go_enter Tryz.func139, Tryz.ntmps139
    go_wp2_with (first
        | (go_at_call 105; refine (isTime_any _ _).mono ?_; rintro e w' ⟨rfl, rfl⟩)
        | (go_at_call 121; refine (within_any _ _ _ _).mono ?_; rintro e w' ⟨rfl, rfl⟩))
    go_ret
    exact ⟨rfl, k0⟩
  cases h1 : inB t.nx 0 1000000000
  · rw [show numB t = false by simp [numB, h0, h1]]
    go_enter Tryz.func139, Tryz.ntmps139
    go_wp2_with (first
        | (go_at_call 105; refine (isTime_any _ _).mono ?_; rintro e w' ⟨rfl, rfl⟩)
        | (go_at_call 121; refine (within_any _ _ _ _).mono ?_; rintro e w' ⟨rfl, rfl⟩))
    go_ret
    exact ⟨rfl, k0⟩
  cases h2 : inB t.pe 0 1000000000
  · rw [show numB t = false by simp [numB, h0, h1, h2]]
    go_enter Tryz.func139, Tryz.ntmps139
    go_wp2_with (first
        | (go_at_call 105; refine (isTime_any _ _).mono ?_; rintro e w' ⟨rfl, rfl⟩)
        | (go_at_call 121; refine (within_any _ _ _ _).mono ?_; rintro e w' ⟨rfl, rfl⟩))
    go_ret
    exact ⟨rfl, k0⟩
  cases h3 : inB t.ge 0 100000
  · rw [show numB t = false by simp [numB, h0, h1, h2, h3]]
    go_enter Tryz.func139, Tryz.ntmps139
    go_wp2_with (first
        | (go_at_call 105; refine (isTime_any _ _).mono ?_; rintro e w' ⟨rfl, rfl⟩)
        | (go_at_call 121; refine (within_any _ _ _ _).mono ?_; rintro e w' ⟨rfl, rfl⟩))
    go_ret
    exact ⟨rfl, k0⟩
  cases h4 : inB t.ki 0 1
  · rw [show numB t = false by simp [numB, h0, h1, h2, h3, h4]]
    go_enter Tryz.func139, Tryz.ntmps139
    go_wp2_with (first
        | (go_at_call 105; refine (isTime_any _ _).mono ?_; rintro e w' ⟨rfl, rfl⟩)
        | (go_at_call 121; refine (within_any _ _ _ _).mono ?_; rintro e w' ⟨rfl, rfl⟩))
    go_ret
    exact ⟨rfl, k0⟩
  cases h5 : inB t.ma 0 1000000001
  · rw [show numB t = false by simp [numB, h0, h1, h2, h3, h4, h5]]
    go_enter Tryz.func139, Tryz.ntmps139
    go_wp2_with (first
        | (go_at_call 105; refine (isTime_any _ _).mono ?_; rintro e w' ⟨rfl, rfl⟩)
        | (go_at_call 121; refine (within_any _ _ _ _).mono ?_; rintro e w' ⟨rfl, rfl⟩))
    go_ret
    exact ⟨rfl, k0⟩
  rw [show numB t = true by simp [numB, h0, h1, h2, h3, h4, h5]]
  go_enter Tryz.func139, Tryz.ntmps139
  go_wp2_with (first
      | (go_at_call 105; refine (isTime_any _ _).mono ?_; rintro e w' ⟨rfl, rfl⟩)
      | (go_at_call 121; refine (within_any _ _ _ _).mono ?_; rintro e w' ⟨rfl, rfl⟩))
  go_ret
  exact ⟨rfl, k0⟩

set_option maxRecDepth 100000 in
set_option maxHeartbeats 2000000 in
theorem next_any (t : Tm) (w : World) :
    Calls Tryz.prog 141 #[tmV t] w fun e w' => e = .returned (.bool (nextB t)) ∧ Below w.heap.size w w' := by
  have k0 := (Below.refl w.heap.size w).alloc (Nat.le_refl _) (.cells #[.int .i64 t.st, .int .i64 t.wh, .int .i64 t.nx, .int .i64 t.pe, .int .i64 t.pl, .int .i64 t.ge, .int .i64 t.ki, .int .i64 t.ma] 90)
  obtain ⟨st, wh, nx, pe, pl, ge, ki, ma⟩ := t
  by_cases h3 : st = 3
  · subst h3
    rw [show nextB ⟨3, wh, nx, pe, pl, ge, ki, ma⟩ = decide (nx < wh) by simp [nextB]]
    go_enter Tryz.func141, Tryz.ntmps141
    go_wp2
    go_ret
    exact ⟨rfl, k0⟩
  by_cases h4 : st = 4
  · subst h4
    rw [show nextB ⟨4, wh, nx, pe, pl, ge, ki, ma⟩ = decide (wh ≤ nx) by simp [nextB]]
    go_enter Tryz.func141, Tryz.ntmps141
    go_wp2
    go_ret
    exact ⟨rfl, k0⟩
  rw [show nextB ⟨st, wh, nx, pe, pl, ge, ki, ma⟩ = true by simp [nextB, h3, h4]]
  have b3 : (st == 3) = false := by simpa using h3
  have b4 : (st == 4) = false := by simpa using h4
  go_enter Tryz.func141, Tryz.ntmps141
  go_wp2
  go_ret
  exact ⟨rfl, k0⟩

end Go.Proofs.YtflekodaiejflaaGreat

/-
  The draws: the code, a cursor over its bytes, and the numbers that it gives; nothing but its own block is written.
-/
namespace Go.Proofs.YtflekodaiejflaaGreat
open Go.RowKit Go.Joins Go.ChangeShapes Go.WideShapes Go.ChangeAt
set_option linter.unusedVariables false
set_option linter.unusedSimpArgs false

/-! ### The code and the cursor -/
/-- the bytes of the code: no memory at all, or bytes that can be read, in a block below B -/
def CodeAt (w : World) (B : Nat) (sl : Value) (len : Nat) : Prop :=
  (len = 0 ∧ ∃ (a : Option Addr) (cap : Nat), sl = .slice a 0 cap) ∨ ∃ (b off cap : Nat) (zs : List Int), sl = .slice (some ⟨b, off, none⟩) len cap ∧ b < B ∧ B ≤ w.heap.size ∧ (∀ k, k < len → w.cell? ⟨b, off + k, none⟩ = some (.int .u8 (zs.getD k 0))) ∧ ∀ k, 0 ≤ zs.getD k 0 ∧ zs.getD k 0 ≤ 255
theorem CodeAt.kept {w w' : World} {B len g : Nat} {sl : Value} (h : CodeAt w B sl len) (hg : w.grownBy w' (some g)) (hB : B ≤ g) : CodeAt w' B sl len := by
  rcases h with h | ⟨b, off, cap, zs, h1, h2, h3, h4, h5⟩
  · exact .inl h
  · exact .inr ⟨b, off, cap, zs, h1, h2, Nat.le_trans h3 hg.size, fun k hk => (g_cell hg (by omega) (by omega) _).trans (h4 k hk), h5⟩
def ByteIn (g k : Nat) (w : World) (e : Ending) (w' : World) : Prop :=
  ∃ (x y : Int) (n : Nat), 0 ≤ x ∧ x ≤ 255 ∧ e = .returned (.int .i64 x) ∧ w' = (((w.setCell ⟨g, 2, none⟩ (.int .i64 y)).drewN n).setCell ⟨g, 1, none⟩ (.int .i64 ((k : Int) + 1)))
def ByteOut (g : Nat) (w : World) (e : Ending) (w' : World) : Prop :=
  ∃ (x y : Int) (n : Nat), 0 ≤ x ∧ x ≤ 255 ∧ e = .returned (.int .i64 x) ∧ w' = ((w.setCell ⟨g, 2, none⟩ (.int .i64 y)).drewN n)

/-! ### numbers from 0 on -/
theorem CodeAt.below {w w' : World} {B len : Nat} {sl : Value} (h : CodeAt w B sl len) (hb : Below B w w') : CodeAt w' B sl len := by
  rcases h with h | ⟨b, off, cap, zs, h1, h2, h3, h4, h5⟩
  · exact .inl h
  · exact .inr ⟨b, off, cap, zs, h1, h2, Nat.le_trans h3 hb.size, fun k hk => (hb.cell (p := ⟨b, off + k, none⟩) h2).trans (h4 k hk), h5⟩

end Go.Proofs.YtflekodaiejflaaGreat

/-
  The draws: odd numbers, and plans.
-/
namespace Go.Proofs.YtflekodaiejflaaGreat
open Go.RowKit Go.Joins
set_option linter.unusedVariables false
set_option linter.unusedSimpArgs false

end Go.Proofs.YtflekodaiejflaaGreat

/-
  The draws of the chapter on timers.
-/
namespace Go.Proofs.YtflekodaiejflaaGreat
open Go.RowKit Go.Joins
set_option linter.unusedVariables false
set_option linter.unusedSimpArgs false

abbrev tmO (t : Tm) (ty : TypeId) : Obj := .cells #[.int .i64 t.st, .int .i64 t.wh, .int .i64 t.nx, .int .i64 t.pe, .int .i64 t.pl, .int .i64 t.ge, .int .i64 t.ki, .int .i64 t.ma] ty
/-- a timer's eight cells -/
theorem eight_cells {w : World} {b : Nat} {t : Tm} {ty : TypeId} (h : w.heap[b]? = some (.cells #[.int .i64 t.st, .int .i64 t.wh, .int .i64 t.nx, .int .i64 t.pe, .int .i64 t.pl, .int .i64 t.ge, .int .i64 t.ki, .int .i64 t.ma] ty (0, 0))) :
    w.cell? ⟨b, 0, none⟩ = some (.int .i64 t.st) ∧ w.cell? ⟨b, 1, none⟩ = some (.int .i64 t.wh) ∧ w.cell? ⟨b, 2, none⟩ = some (.int .i64 t.nx) ∧ w.cell? ⟨b, 3, none⟩ = some (.int .i64 t.pe) ∧ w.cell? ⟨b, 4, none⟩ = some (.int .i64 t.pl) ∧ w.cell? ⟨b, 5, none⟩ = some (.int .i64 t.ge) ∧ w.cell? ⟨b, 6, none⟩ = some (.int .i64 t.ki) ∧ w.cell? ⟨b, 7, none⟩ = some (.int .i64 t.ma) :=
  ⟨cell_of_block h 0, cell_of_block h 1, cell_of_block h 2, cell_of_block h 3, cell_of_block h 4, cell_of_block h 5, cell_of_block h 6, cell_of_block h 7⟩
theorem eight_free {w : World} {b : Nat} {cs : Array Value} {ty : TypeId} (h : w.heap[b]? = some (.cells cs ty (0, 0))) :
    w.frozen? ⟨b, 0, none⟩ = false ∧ w.frozen? ⟨b, 1, none⟩ = false ∧ w.frozen? ⟨b, 2, none⟩ = false ∧ w.frozen? ⟨b, 3, none⟩ = false ∧ w.frozen? ⟨b, 4, none⟩ = false ∧ w.frozen? ⟨b, 5, none⟩ = false ∧ w.frozen? ⟨b, 6, none⟩ = false ∧ w.frozen? ⟨b, 7, none⟩ = false :=
  ⟨unfrozen_of_block h 0, unfrozen_of_block h 1, unfrozen_of_block h 2, unfrozen_of_block h 3, unfrozen_of_block h 4, unfrozen_of_block h 5, unfrozen_of_block h 6, unfrozen_of_block h 7⟩
abbrev set8 (w : World) (b : Nat) (t : Tm) : World := ((((((((w.setCell ⟨b, 0, none⟩ (.int .i64 t.st)).setCell ⟨b, 1, none⟩ (.int .i64 t.wh)).setCell ⟨b, 2, none⟩ (.int .i64 t.nx)).setCell ⟨b, 3, none⟩ (.int .i64 t.pe)).setCell ⟨b, 4, none⟩ (.int .i64 t.pl)).setCell ⟨b, 5, none⟩ (.int .i64 t.ge)).setCell ⟨b, 6, none⟩ (.int .i64 t.ki)).setCell ⟨b, 7, none⟩ (.int .i64 t.ma))
theorem g_new8 {a w : World} {g b : Nat} (h : a.grownBy w (some g)) (hb : a.heap.size ≤ b) (t : Tm) : a.grownBy (set8 w b t) (some g) :=
  g_new (g_new (g_new (g_new (g_new (g_new (g_new (g_new h hb _ _) hb _ _) hb _ _) hb _ _) hb _ _) hb _ _) hb _ _) hb _ _

end Go.Proofs.YtflekodaiejflaaGreat

/-
  Timers, in the program: the place that a status wants; is a timer right?
-/
namespace Go.Proofs.YtflekodaiejflaaGreat
open Go.RowKit Go.Joins
set_option linter.unusedVariables false
set_option linter.unusedSimpArgs false

set_option maxRecDepth 100000 in
set_option maxHeartbeats 4000000 in
theorem place_eight (a b c st wh nx pe pl ge ki ma : Int) (w : World) :
    Calls Tryz.prog 140 #[.agg #[.int .i64 st, .int .i64 wh, .int .i64 nx, .int .i64 pe, .int .i64 pl, .int .i64 ge, .int .i64 ki, .int .i64 ma], .agg #[.int .i64 a, .int .i64 b, .int .i64 c]] w fun e w' => e = .returned (.bool (putB a b c ⟨st, wh, nx, pe, pl, ge, ki, ma⟩)) ∧ Below w.heap.size w w' := by
  have K := ((Below.refl w.heap.size w).alloc (Nat.le_refl _) (.cells #[.int .i64 st, .int .i64 wh, .int .i64 nx, .int .i64 pe, .int .i64 pl, .int .i64 ge, .int .i64 ki, .int .i64 ma] 90)).alloc (by simp) (.cells #[.int .i64 a, .int .i64 b, .int .i64 c] 46)
  have p0 := alloc_block (.cells #[.int .i64 a, .int .i64 b, .int .i64 c] 46) (heap_alloc_new w (.cells #[.int .i64 st, .int .i64 wh, .int .i64 nx, .int .i64 pe, .int .i64 pl, .int .i64 ge, .int .i64 ki, .int .i64 ma] 90))
  have p1 := heap_alloc_new (w.alloc (.cells #[.int .i64 st, .int .i64 wh, .int .i64 nx, .int .i64 pe, .int .i64 pl, .int .i64 ge, .int .i64 ki, .int .i64 ma] 90)) (.cells #[.int .i64 a, .int .i64 b, .int .i64 c] 46)
  rw [show (w.alloc (.cells #[.int .i64 st, .int .i64 wh, .int .i64 nx, .int .i64 pe, .int .i64 pl, .int .i64 ge, .int .i64 ki, .int .i64 ma] 90)).heap.size = w.heap.size + 1 by simp] at p1
  have l0 := lt_of_block p0
  have l1 := lt_of_block p1
  have kk := (Below.refl ((w.alloc (.cells #[.int .i64 st, .int .i64 wh, .int .i64 nx, .int .i64 pe, .int .i64 pl, .int .i64 ge, .int .i64 ki, .int .i64 ma] 90)).alloc (.cells #[.int .i64 a, .int .i64 b, .int .i64 c] 46)).heap.size ((w.alloc (.cells #[.int .i64 st, .int .i64 wh, .int .i64 nx, .int .i64 pe, .int .i64 pl, .int .i64 ge, .int .i64 ki, .int .i64 ma] 90)).alloc (.cells #[.int .i64 a, .int .i64 b, .int .i64 c] 46))).drew
  by_cases h2 : st = 2
  · subst h2
    cases hp : procB a b c pl
    · have HP := Lib.hid hp
      by_cases h1 : pl = -1
      · subst h1
        rw [show putB a b c ⟨2, wh, nx, pe, -1, ge, ki, ma⟩ = true by simp [putB]]
        clear hp
        go_enter Tryz.func140, Tryz.ntmps140
        go_wp2_with fail
        go_region_held3 (fun w' => w'.cell? ⟨w.heap.size, 4, none⟩ = some (.int .i64 (-1)) ∧ w'.cell? ⟨w.heap.size + 1, 0, none⟩ = some (.int .i64 a) ∧ w'.cell? ⟨w.heap.size + 1, 1, none⟩ = some (.int .i64 b) ∧ w'.cell? ⟨w.heap.size + 1, 2, none⟩ = some (.int .i64 c))
          (exact ⟨(kk.cell (p := ⟨w.heap.size, 4, none⟩) l0).trans (cell_of_block p0 4), (kk.cell (p := ⟨w.heap.size + 1, 0, none⟩) l1).trans (cell_of_block p1 0), (kk.cell (p := ⟨w.heap.size + 1, 1, none⟩) l1).trans (cell_of_block p1 1), (kk.cell (p := ⟨w.heap.size + 1, 2, none⟩) l1).trans (cell_of_block p1 2)⟩)
          (first | (go_at_call 153; refine (hasProc_any _ _ _ _ _).mono ?_; rw [HP.out]; rintro e w1 ⟨rfl, hb⟩; replace kk := kk.trans (hb.mono kk.size); clear hb))
        all_goals
          go_wp2_with (first
            | (go_at_call 154; refine (stInHeap_any _ _).mono ?_; rintro e w' ⟨rfl, rfl⟩)
            | (go_at_call 155; refine (known_any _ _).mono ?_; rintro e w' ⟨rfl, rfl⟩))
          go_ret
          exact ⟨ret_bool' (by simp), K.trans (kk.mono K.size)⟩
      · have b1 : (pl == -1) = false := by simpa using h1
        rw [show putB a b c ⟨2, wh, nx, pe, pl, ge, ki, ma⟩ = false by simp [putB, hp, h1]]
        clear hp h1
        go_enter Tryz.func140, Tryz.ntmps140
        go_wp2_with fail
        go_region_held3 (fun w' => w'.cell? ⟨w.heap.size, 4, none⟩ = some (.int .i64 pl) ∧ w'.cell? ⟨w.heap.size + 1, 0, none⟩ = some (.int .i64 a) ∧ w'.cell? ⟨w.heap.size + 1, 1, none⟩ = some (.int .i64 b) ∧ w'.cell? ⟨w.heap.size + 1, 2, none⟩ = some (.int .i64 c))
          (exact ⟨(kk.cell (p := ⟨w.heap.size, 4, none⟩) l0).trans (cell_of_block p0 4), (kk.cell (p := ⟨w.heap.size + 1, 0, none⟩) l1).trans (cell_of_block p1 0), (kk.cell (p := ⟨w.heap.size + 1, 1, none⟩) l1).trans (cell_of_block p1 1), (kk.cell (p := ⟨w.heap.size + 1, 2, none⟩) l1).trans (cell_of_block p1 2)⟩)
          (first | (go_at_call 153; refine (hasProc_any _ _ _ _ _).mono ?_; rw [HP.out]; rintro e w1 ⟨rfl, hb⟩; replace kk := kk.trans (hb.mono kk.size); clear hb))
        all_goals
          go_wp2_with (first
            | (go_at_call 154; refine (stInHeap_any _ _).mono ?_; rintro e w' ⟨rfl, rfl⟩)
            | (go_at_call 155; refine (known_any _ _).mono ?_; rintro e w' ⟨rfl, rfl⟩))
          go_ret
          exact ⟨ret_bool' (by simp), K.trans (kk.mono K.size)⟩
    · have HP := Lib.hid hp
      rw [show putB a b c ⟨2, wh, nx, pe, pl, ge, ki, ma⟩ = true by simp [putB, hp]]
      clear hp
      go_enter Tryz.func140, Tryz.ntmps140
      go_wp2_with fail
      go_region_held3 (fun w' => w'.cell? ⟨w.heap.size, 4, none⟩ = some (.int .i64 pl) ∧ w'.cell? ⟨w.heap.size + 1, 0, none⟩ = some (.int .i64 a) ∧ w'.cell? ⟨w.heap.size + 1, 1, none⟩ = some (.int .i64 b) ∧ w'.cell? ⟨w.heap.size + 1, 2, none⟩ = some (.int .i64 c))
        (exact ⟨(kk.cell (p := ⟨w.heap.size, 4, none⟩) l0).trans (cell_of_block p0 4), (kk.cell (p := ⟨w.heap.size + 1, 0, none⟩) l1).trans (cell_of_block p1 0), (kk.cell (p := ⟨w.heap.size + 1, 1, none⟩) l1).trans (cell_of_block p1 1), (kk.cell (p := ⟨w.heap.size + 1, 2, none⟩) l1).trans (cell_of_block p1 2)⟩)
        (first | (go_at_call 153; refine (hasProc_any _ _ _ _ _).mono ?_; rw [HP.out]; rintro e w1 ⟨rfl, hb⟩; replace kk := kk.trans (hb.mono kk.size); clear hb))
      all_goals
        go_wp2_with (first
          | (go_at_call 154; refine (stInHeap_any _ _).mono ?_; rintro e w' ⟨rfl, rfl⟩)
          | (go_at_call 155; refine (known_any _ _).mono ?_; rintro e w' ⟨rfl, rfl⟩))
        go_ret
        exact ⟨ret_bool' (by simp), K.trans (kk.mono K.size)⟩
  have b2 : (st == 2) = false := by simpa using h2
  cases hi : inHeapB st
  · cases hk : inB st 0 7
    · rw [show putB a b c ⟨st, wh, nx, pe, pl, ge, ki, ma⟩ = false by simp [putB, h2, hi, hk]]
      clear h2
      go_enter Tryz.func140, Tryz.ntmps140
      go_wp2_with fail
      go_region_held3 (fun w' => w'.cell? ⟨w.heap.size, 4, none⟩ = some (.int .i64 pl) ∧ w'.cell? ⟨w.heap.size + 1, 0, none⟩ = some (.int .i64 a) ∧ w'.cell? ⟨w.heap.size + 1, 1, none⟩ = some (.int .i64 b) ∧ w'.cell? ⟨w.heap.size + 1, 2, none⟩ = some (.int .i64 c))
        (exact ⟨(kk.cell (p := ⟨w.heap.size, 4, none⟩) l0).trans (cell_of_block p0 4), (kk.cell (p := ⟨w.heap.size + 1, 0, none⟩) l1).trans (cell_of_block p1 0), (kk.cell (p := ⟨w.heap.size + 1, 1, none⟩) l1).trans (cell_of_block p1 1), (kk.cell (p := ⟨w.heap.size + 1, 2, none⟩) l1).trans (cell_of_block p1 2)⟩)
        (first | (go_at_call 153; refine (hasProc_any _ _ _ _ _).mono ?_; rintro e w1 ⟨rfl, hb⟩; replace kk := kk.trans (hb.mono kk.size); clear hb))
      all_goals
        go_wp2_with (first
          | (go_at_call 154; refine (stInHeap_any _ _).mono ?_; rintro e w' ⟨rfl, rfl⟩)
          | (go_at_call 155; refine (known_any _ _).mono ?_; rintro e w' ⟨rfl, rfl⟩))
        go_ret
        exact ⟨ret_bool' (by simp), K.trans (kk.mono K.size)⟩
    · by_cases h1 : pl = -1
      · subst h1
        rw [show putB a b c ⟨st, wh, nx, pe, -1, ge, ki, ma⟩ = true by simp [putB, h2, hi, hk]]
        clear h2
        go_enter Tryz.func140, Tryz.ntmps140
        go_wp2_with fail
        go_region_held3 (fun w' => w'.cell? ⟨w.heap.size, 4, none⟩ = some (.int .i64 (-1)) ∧ w'.cell? ⟨w.heap.size + 1, 0, none⟩ = some (.int .i64 a) ∧ w'.cell? ⟨w.heap.size + 1, 1, none⟩ = some (.int .i64 b) ∧ w'.cell? ⟨w.heap.size + 1, 2, none⟩ = some (.int .i64 c))
          (exact ⟨(kk.cell (p := ⟨w.heap.size, 4, none⟩) l0).trans (cell_of_block p0 4), (kk.cell (p := ⟨w.heap.size + 1, 0, none⟩) l1).trans (cell_of_block p1 0), (kk.cell (p := ⟨w.heap.size + 1, 1, none⟩) l1).trans (cell_of_block p1 1), (kk.cell (p := ⟨w.heap.size + 1, 2, none⟩) l1).trans (cell_of_block p1 2)⟩)
          (first | (go_at_call 153; refine (hasProc_any _ _ _ _ _).mono ?_; rintro e w1 ⟨rfl, hb⟩; replace kk := kk.trans (hb.mono kk.size); clear hb))
        all_goals
          go_wp2_with (first
            | (go_at_call 154; refine (stInHeap_any _ _).mono ?_; rintro e w' ⟨rfl, rfl⟩)
            | (go_at_call 155; refine (known_any _ _).mono ?_; rintro e w' ⟨rfl, rfl⟩))
          go_ret
          exact ⟨ret_bool' (by simp), K.trans (kk.mono K.size)⟩
      · have b1 : (pl == -1) = false := by simpa using h1
        rw [show putB a b c ⟨st, wh, nx, pe, pl, ge, ki, ma⟩ = false by simp [putB, h2, hi, h1]]
        clear h2 h1
        go_enter Tryz.func140, Tryz.ntmps140
        go_wp2_with fail
        go_region_held3 (fun w' => w'.cell? ⟨w.heap.size, 4, none⟩ = some (.int .i64 pl) ∧ w'.cell? ⟨w.heap.size + 1, 0, none⟩ = some (.int .i64 a) ∧ w'.cell? ⟨w.heap.size + 1, 1, none⟩ = some (.int .i64 b) ∧ w'.cell? ⟨w.heap.size + 1, 2, none⟩ = some (.int .i64 c))
          (exact ⟨(kk.cell (p := ⟨w.heap.size, 4, none⟩) l0).trans (cell_of_block p0 4), (kk.cell (p := ⟨w.heap.size + 1, 0, none⟩) l1).trans (cell_of_block p1 0), (kk.cell (p := ⟨w.heap.size + 1, 1, none⟩) l1).trans (cell_of_block p1 1), (kk.cell (p := ⟨w.heap.size + 1, 2, none⟩) l1).trans (cell_of_block p1 2)⟩)
          (first | (go_at_call 153; refine (hasProc_any _ _ _ _ _).mono ?_; rintro e w1 ⟨rfl, hb⟩; replace kk := kk.trans (hb.mono kk.size); clear hb))
        all_goals
          go_wp2_with (first
            | (go_at_call 154; refine (stInHeap_any _ _).mono ?_; rintro e w' ⟨rfl, rfl⟩)
            | (go_at_call 155; refine (known_any _ _).mono ?_; rintro e w' ⟨rfl, rfl⟩))
          go_ret
          exact ⟨ret_bool' (by simp), K.trans (kk.mono K.size)⟩
  · rw [show putB a b c ⟨st, wh, nx, pe, pl, ge, ki, ma⟩ = procB a b c pl by simp [putB, h2, hi]]
    clear h2
    go_enter Tryz.func140, Tryz.ntmps140
    go_wp2_with fail
    go_region_held3 (fun w' => w'.cell? ⟨w.heap.size, 4, none⟩ = some (.int .i64 pl) ∧ w'.cell? ⟨w.heap.size + 1, 0, none⟩ = some (.int .i64 a) ∧ w'.cell? ⟨w.heap.size + 1, 1, none⟩ = some (.int .i64 b) ∧ w'.cell? ⟨w.heap.size + 1, 2, none⟩ = some (.int .i64 c))
      (exact ⟨(kk.cell (p := ⟨w.heap.size, 4, none⟩) l0).trans (cell_of_block p0 4), (kk.cell (p := ⟨w.heap.size + 1, 0, none⟩) l1).trans (cell_of_block p1 0), (kk.cell (p := ⟨w.heap.size + 1, 1, none⟩) l1).trans (cell_of_block p1 1), (kk.cell (p := ⟨w.heap.size + 1, 2, none⟩) l1).trans (cell_of_block p1 2)⟩)
      (first | (go_at_call 153; refine (hasProc_any _ _ _ _ _).mono ?_; rintro e w1 ⟨rfl, hb⟩; replace kk := kk.trans (hb.mono kk.size); clear hb))
    all_goals
      go_wp2_with (first
        | (go_at_call 154; refine (stInHeap_any _ _).mono ?_; rintro e w' ⟨rfl, rfl⟩)
        | (go_at_call 155; refine (known_any _ _).mono ?_; rintro e w' ⟨rfl, rfl⟩))
      go_ret
      exact ⟨ret_bool' (by simp), K.trans (kk.mono K.size)⟩

theorem place_any (a b c : Int) (t : Tm) (w : World) :
    Calls Tryz.prog 140 #[tmV t, .agg #[.int .i64 a, .int .i64 b, .int .i64 c]] w fun e w' => e = .returned (.bool (putB a b c t)) ∧ Below w.heap.size w w' :=
  place_eight a b c t.st t.wh t.nx t.pe t.pl t.ge t.ki t.ma w

theorem timerB_eq (a b c : Int) (t : Tm) : timerB a b c t = (planB a b c && (numB t && (putB a b c t && nextB t))) := by
  have hp : (inB t.st 0 7 && placeB a b c t) = putB a b c t := by
    unfold placeB putB
    by_cases h2 : t.st = 2
    · simp [h2, inHeapB, inB, Bool.or_comm]
    · cases hi : inHeapB t.st
      · have b2 : (t.st == 2) = false := by simpa using h2
        simp [h2, b2]
      · have hk : inB t.st 0 7 = true := by
          simp only [inHeapB, Bool.or_eq_true, beq_iff_eq] at hi
          rw [inB_iff]; omega
        simp [h2, hk]
  rw [← hp]
  unfold timerB numB
  cases planB a b c <;> cases inB t.st 0 7 <;> simp <;> cases placeB a b c t <;> simp [Bool.and_assoc, Bool.and_comm]

set_option maxRecDepth 100000 in
set_option maxHeartbeats 4000000 in
theorem imTimerOk_any : AsksT 126 := by
  intro a b c t w
  rw [timerB_eq]
  have hPv := alloc_block (tmO t 90) (heap_alloc_new w (.cells #[.int .i64 a, .int .i64 b, .int .i64 c] 46))
  have hTv := heap_alloc_new (w.alloc (.cells #[.int .i64 a, .int .i64 b, .int .i64 c] 46)) (tmO t 90)
  rw [show (w.alloc (.cells #[.int .i64 a, .int .i64 b, .int .i64 c] 46)).heap.size = w.heap.size + 1 by simp] at hTv
  have kk := ((Below.refl w.heap.size w).alloc (Nat.le_refl _) (.cells #[.int .i64 a, .int .i64 b, .int .i64 c] 46)).alloc (by simp) (tmO t 90)
  cases h1 : planB a b c
  · have H1 := Lib.hid h1
    clear h1
    rw [Bool.false_and]
    go_enter Tryz.func126, Tryz.ntmps126
    go_wp2_with fail
    go_at_call 117; refine (right_any _ _ _ _).mono ?_; rw [H1.out]; rintro e w1 ⟨rfl, hb⟩
    replace hPv := b_block hb hPv (lt_of_block hPv); replace hTv := b_block hb hTv (lt_of_block hTv); replace kk := kk.trans (hb.mono kk.size); clear hb
    go_wp2
    go_ret
    exact ⟨rfl, kk⟩
  have H1 := Lib.hid h1
  clear h1
  cases h2 : numB t
  · have H2 := Lib.hid h2
    clear h2
    rw [Bool.false_and, Bool.true_and]
    go_enter Tryz.func126, Tryz.ntmps126
    go_wp2_with fail
    go_at_call 117; refine (right_any _ _ _ _).mono ?_; rw [H1.out]; rintro e w1 ⟨rfl, hb⟩
    replace hPv := b_block hb hPv (lt_of_block hPv); replace hTv := b_block hb hTv (lt_of_block hTv); replace kk := kk.trans (hb.mono kk.size); clear hb
    obtain ⟨t0, t1, t2, t3, t4, t5, t6, t7⟩ := eight_cells (t := t) hTv
    go_wp2_with fail
    go_at_call 139; refine (numbers_any _ _).mono ?_; rw [H2.out]; rintro e w2 ⟨rfl, hb⟩
    replace hPv := b_block hb hPv (lt_of_block hPv); replace hTv := b_block hb hTv (lt_of_block hTv); replace kk := kk.trans (hb.mono kk.size); clear hb t0 t1 t2 t3 t4 t5 t6 t7
    go_wp2
    go_ret
    exact ⟨rfl, kk⟩
  have H2 := Lib.hid h2
  clear h2
  cases h3 : putB a b c t
  · have H3 := Lib.hid h3
    clear h3
    rw [Bool.false_and, Bool.true_and, Bool.true_and]
    go_enter Tryz.func126, Tryz.ntmps126
    go_wp2_with fail
    go_at_call 117; refine (right_any _ _ _ _).mono ?_; rw [H1.out]; rintro e w1 ⟨rfl, hb⟩
    replace hPv := b_block hb hPv (lt_of_block hPv); replace hTv := b_block hb hTv (lt_of_block hTv); replace kk := kk.trans (hb.mono kk.size); clear hb
    obtain ⟨t0, t1, t2, t3, t4, t5, t6, t7⟩ := eight_cells (t := t) hTv
    go_wp2_with fail
    go_at_call 139; refine (numbers_any _ _).mono ?_; rw [H2.out]; rintro e w2 ⟨rfl, hb⟩
    replace hPv := b_block hb hPv (lt_of_block hPv); replace hTv := b_block hb hTv (lt_of_block hTv); replace kk := kk.trans (hb.mono kk.size); clear hb t0 t1 t2 t3 t4 t5 t6 t7
    obtain ⟨v0, v1, v2, _, _, _⟩ := three hPv
    obtain ⟨t0, t1, t2, t3, t4, t5, t6, t7⟩ := eight_cells (t := t) hTv
    go_wp2_with fail
    go_at_call 140; refine (place_any _ _ _ _ _).mono ?_; rw [H3.out]; rintro e w3 ⟨rfl, hb⟩
    replace hPv := b_block hb hPv (lt_of_block hPv); replace hTv := b_block hb hTv (lt_of_block hTv); replace kk := kk.trans (hb.mono kk.size); clear hb t0 t1 t2 t3 t4 t5 t6 t7 v0 v1 v2
    go_wp2
    go_ret
    exact ⟨rfl, kk⟩
  have H3 := Lib.hid h3
  clear h3
  rw [Bool.true_and, Bool.true_and, Bool.true_and]
  go_enter Tryz.func126, Tryz.ntmps126
  go_wp2_with fail
  go_at_call 117; refine (right_any _ _ _ _).mono ?_; rw [H1.out]; rintro e w1 ⟨rfl, hb⟩
  replace hPv := b_block hb hPv (lt_of_block hPv); replace hTv := b_block hb hTv (lt_of_block hTv); replace kk := kk.trans (hb.mono kk.size); clear hb
  obtain ⟨t0, t1, t2, t3, t4, t5, t6, t7⟩ := eight_cells (t := t) hTv
  go_wp2_with fail
  go_at_call 139; refine (numbers_any _ _).mono ?_; rw [H2.out]; rintro e w2 ⟨rfl, hb⟩
  replace hPv := b_block hb hPv (lt_of_block hPv); replace hTv := b_block hb hTv (lt_of_block hTv); replace kk := kk.trans (hb.mono kk.size); clear hb t0 t1 t2 t3 t4 t5 t6 t7
  obtain ⟨v0, v1, v2, _, _, _⟩ := three hPv
  obtain ⟨t0, t1, t2, t3, t4, t5, t6, t7⟩ := eight_cells (t := t) hTv
  go_wp2_with fail
  go_at_call 140; refine (place_any _ _ _ _ _).mono ?_; rw [H3.out]; rintro e w3 ⟨rfl, hb⟩
  replace hPv := b_block hb hPv (lt_of_block hPv); replace hTv := b_block hb hTv (lt_of_block hTv); replace kk := kk.trans (hb.mono kk.size); clear hb t0 t1 t2 t3 t4 t5 t6 t7 v0 v1 v2
  obtain ⟨t0, t1, t2, t3, t4, t5, t6, t7⟩ := eight_cells (t := t) hTv
  go_wp2_with fail
  go_at_call 141; refine (next_any _ _).mono ?_; rintro e w4 ⟨rfl, hb⟩
  replace hPv := b_block hb hPv (lt_of_block hPv); replace hTv := b_block hb hTv (lt_of_block hTv); replace kk := kk.trans (hb.mono kk.size); clear hb t0 t1 t2 t3 t4 t5 t6 t7
  go_wp2
  go_ret
  exact ⟨rfl, kk⟩

end Go.Proofs.YtflekodaiejflaaGreat
