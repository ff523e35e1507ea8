/-
  Processors, in the program (chapter 4): no Id twice, right, when to wake.
-/
import Derived.Test.YtnmaljieaflnmaaL07
import Derived.Test.YtnmaljieaflnmaaL08
import Derived.Test.YtnmaljieaflnmaaL06
import Derived.Test.YtnmaljieaflnmaaL02
import Derived.Test.YtnmaljieaflnmaaL00
import Derived.OpenShut
import Derived.ChangeOld
import Derived.Test.YtnmaljieaflnmaaL01
namespace Go.Proofs.Ytnmaljieaflnmaa
open Go.RowKit Go.Joins
set_option linter.unusedVariables false

theorem diffTo_iff {f : Slots} {i : Nat} : ∀ {k : Nat}, diffTo f i k = true ↔ ∀ q, q < k → (f q).1 ≠ (f i).1
  | 0 => by simp [diffTo]
  | k + 1 => by
    rw [diffTo, Bool.and_eq_true, diffTo_iff]
    constructor
    · rintro ⟨h1, h2⟩ q hq
      by_cases e : q = k
      · subst e
        intro h
        rw [h] at h2
        simp at h2
      · exact h1 q (by omega)
    · intro h
      refine ⟨fun q hq => h q (by omega), ?_⟩
      have := h k (by omega)
      simp only [Bool.not_eq_true', beq_eq_false_iff_ne, ne_eq]
      exact fun e => this e.symm
theorem find_past {f : Slots} {n : Nat} {id : Int} : ∀ j, j ≤ n → (∀ q, q < j → (f q).1 ≠ id) → findFrom f n id 0 = findFrom f n id j
  | 0, _, _ => rfl
  | j + 1, hj, h => by rw [find_past j (by omega) fun q hq => h q (by omega), findFrom_next (by omega) (h j (by omega))]
theorem find_self {f : Slots} {n k : Nat} (hk : k < n) (h : diffTo f k k = true) : findFrom f n (f k).1 0 = k := by
  rw [find_past k (Nat.le_of_lt hk) (diffTo_iff.1 h), findFrom_here hk rfl]
theorem find_other {f : Slots} {n k : Nat} (hk : k < n) (h : diffTo f k k = false) : findFrom f n (f k).1 0 ≠ k := by
  have hex : ¬ ∀ q, q < k → (f q).1 ≠ (f k).1 := fun hh => by rw [diffTo_iff.2 hh] at h; cases h
  have : ∀ c j, k - j ≤ c → j ≤ k → (∀ q, q < j → (f q).1 ≠ (f k).1) → findFrom f n (f k).1 0 ≠ k := by
    intro c
    induction c with
    | zero => intro j h1 h2 h3; exact absurd (show ∀ q, q < k → (f q).1 ≠ (f k).1 from fun q hq => h3 q (by omega)) hex
    | succ c ih =>
      intro j h1 h2 h3
      by_cases e : j = k
      · subst e; exact absurd h3 hex
      by_cases hj : (f j).1 = (f k).1
      · rw [find_past j (by omega) h3, findFrom_here (by omega) hj]
        omega
      · refine ih (j + 1) (by omega) (by omega) fun q hq => ?_
        by_cases e2 : q = j
        · subst e2; exact hj
        · exact h3 q (by omega)
  exact this k 0 (by omega) (Nat.zero_le _) fun q hq => absurd hq (Nat.not_lt_zero _)

set_option maxRecDepth 100000 in
set_option maxHeartbeats 1000000 in
theorem noIdTwice_any {v : Value} {n : Nat} {f : Slots} {w : World} (hn : n ≤ 1048576) (h : RowAt w v n f) :
    Calls Try.prog 92 #[v] w fun x w' => x = .returned (.bool (diffAll f n)) ∧ Below w.heap.size w w' := by
  obtain ⟨a, cap, hv⟩ := h.form
  have HR := Lib.hid h
  clear h
  subst hv
  go_enter Try.func92, Try.ntmps92
  go_wp2_with fail
  go_loopw [7] (fun i wr => ∃ k : Nat, k ≤ n ∧ i = .int .i64 k ∧ Below w.heap.size w wr ∧ Hid (diffAll f k = true)) (fun i _ => n - (intOf i).toNat)
  case atStart => exact ⟨0, Nat.zero_le _, rfl, Below.refl _ _, Lib.hid rfl⟩
  case round =>
    obtain ⟨k, hk, rfl, hbw, hd⟩ := hrel
    by_cases hlt : k < n
    · have hri := HR.out.below hbw
      rcases HR.out with ⟨h0, _⟩ | ⟨b, off, cap2, e2, hl, hc⟩
      · omega
      injection e2 with e2 _ e3
      subst e2
      have c0 := (hbw.cell (p := ⟨b, off + k * 2, none⟩) hl).trans (hc k hlt).1
      have c1 := (hbw.cell (p := ⟨b, off + k * 2 + 1, none⟩) hl).trans (hc k hlt).2
      have b2 : (k : Int) < (n : Int) := by omega
      clear hc
      have ka := hbw.alloc hbw.size (.cells #[.int .i64 (f k).1, .int .i64 (f k).2] 35)
      have hrA := hri.below ((Below.refl wr.heap.size wr).alloc (Nat.le_refl _) (.cells #[.int .i64 (f k).1, .int .i64 (f k).2] 35))
      subst e3
      cases hdk : diffTo f k k
      · have hbad := Lib.hid (show false = diffAll f n from (diffAll_bad (show diffAll f (k + 1) = false by rw [diffAll, hdk, Bool.and_false]) n (by omega)).symm)
        obtain ⟨r, hr⟩ : ∃ r, findM f n (f k).1 = r := ⟨_, rfl⟩
        have hne : (r != (k : Int)) = true := by
          have := find_other hlt hdk
          rw [bne_iff_ne, ← hr]
          exact this
        clear hd hdk
        go_wp2_with fail
        go_at_call 119; refine (iFindSlot_holds _ _ f _ _ hn hrA).mono ?_; rintro x w1 ⟨rfl, hb⟩
        rw [hr]
        clear hr
        go_wp2
        go_ret
        exact ⟨ret_bool hbad.out, ka.trans (hb.mono ka.size)⟩
      · have hnext := Lib.hid (show diffAll f (k + 1) = true by rw [diffAll, hd.out, hdk]; rfl)
        have hr : findM f n (f k).1 = k := find_self hlt hdk
        have hne : ((k : Int) != (k : Int)) = false := by simp
        clear hd hdk
        go_wp2_with fail
        go_at_call 119; refine (iFindSlot_holds _ _ f _ _ hn hrA).mono ?_; rintro x w1 ⟨rfl, hb⟩
        rw [hr]
        clear hr
        have kb := ka.trans (hb.mono ka.size)
        go_wp2
        exact ⟨⟨k + 1, by omega, by go_num, kb, hnext⟩, by simp only [intOf]; omega⟩
    · have hkn : k = n := by omega
      have hkd : decide (k < n) = false := by simp; omega
      have hall := Lib.hid (show true = diffAll f n by rw [← hkn]; exact hd.out.symm)
      clear hkn
      go_wp2
      go_ret
      exact ⟨ret_bool hall.out, hbw⟩

theorem procOkB_eq (a b c : Int) (f : Slots) (n : Nat) (l e d : Int) :
    procOkB a b c f n l e d = (planB a b c && ((((heapB f n && diffAll f n) && (l == -1 || workB a b c l)) && (e == -1 || inB e 0 1000000000)) && inB d 0 n)) := by
  unfold procOkB
  cases planB a b c <;> cases heapB f n <;> cases diffAll f n <;> cases (l == -1 || workB a b c l) <;> cases (e == -1 || inB e 0 1000000000) <;> cases inB d 0 n <;> rfl

/-- is it right, but for the plan? -/
def rightB (a b c : Int) (f : Slots) (n : Nat) (l e d : Int) : Bool :=
  (((heapB f n && diffAll f n) && (l == -1 || workB a b c l)) && (e == -1 || inB e 0 1000000000)) && inB d 0 n

set_option maxRecDepth 100000 in
set_option maxHeartbeats 2000000 in
theorem rightIn_any (a b c : Int) {v : Value} {n : Nat} {f : Slots} (l e d : Int) {w : World} (hn : n ≤ 1048576) (h : RowAt w v n f) :
    Calls Try.prog 51 #[pxV v l e d, .agg #[.int .i64 a, .int .i64 b, .int .i64 c]] w fun x w' => x = .returned (.bool (rightB a b c f n l e d)) ∧ Below w.heap.size w w' := by
  have k0 := (Below.refl w.heap.size w).alloc (Nat.le_refl _) (pxB v l e d)
  have k1 := k0.alloc k0.size (.cells #[.int .i64 a, .int .i64 b, .int .i64 c] 25)
  have HR := Lib.hid (h.below k1)
  have HX := Lib.hid (alloc_block (.cells #[.int .i64 a, .int .i64 b, .int .i64 c] 25) (heap_alloc_new w (pxB v l e d)))
  have hP := heap_alloc_new (w.alloc (pxB v l e d)) (.cells #[.int .i64 a, .int .i64 b, .int .i64 c] 25)
  rw [show (w.alloc (pxB v l e d)).heap.size = w.heap.size + 1 by simp] at hP
  have HP := Lib.hid hP
  have lX := lt_of_block HX.out
  have lP := lt_of_block hP
  clear hP
  obtain ⟨va, vc, hv⟩ := h.form
  have hform : ∃ a cap, v = .slice a n cap := h.form
  clear h
  subst hv
  have kw := Below.refl ((w.alloc (pxB (.slice va n vc) l e d)).alloc (.cells #[.int .i64 a, .int .i64 b, .int .i64 c] 25)).heap.size ((w.alloc (pxB (.slice va n vc) l e d)).alloc (.cells #[.int .i64 a, .int .i64 b, .int .i64 c] 25))
  cases h2 : heapB f n
  · rw [show rightB a b c f n l e d = false by simp only [rightB, h2]; rfl]
    go_enter Try.func51, Try.ntmps51
    go_wp2_with fail
    go_at_call 91; refine (iHeapOk_holds _ _ f _ hn HR.out).mono ?_; rintro x w1 ⟨rfl, hb⟩; rw [h2]
    replace kw := kw.trans (hb.mono kw.size)
    clear hb
    obtain ⟨x0, x1, x2, x3, _, _, _, _⟩ := four (b_block kw HX.out lX)
    go_wp2
    go_ret
    exact ⟨rfl, k1.trans (kw.mono k1.size)⟩
  cases h3 : diffAll f n
  · rw [show rightB a b c f n l e d = false by simp only [rightB, h2, h3]; rfl]
    go_enter Try.func51, Try.ntmps51
    go_wp2_with fail
    go_at_call 91; refine (iHeapOk_holds _ _ f _ hn HR.out).mono ?_; rintro x w1 ⟨rfl, hb⟩; rw [h2]
    replace kw := kw.trans (hb.mono kw.size)
    clear hb
    obtain ⟨x0, x1, x2, x3, _, _, _, _⟩ := four (b_block kw HX.out lX)
    obtain ⟨y0, y1, y2, _, _, _⟩ := three (b_block kw HP.out lP)
    go_wp2_with fail
    go_at_call 92; refine (noIdTwice_any hn (HR.out.below kw)).mono ?_; rintro x w1 ⟨rfl, hb⟩; rw [h3]
    replace kw := kw.trans (hb.mono kw.size)
    clear hb x0 x1 x2 x3 y0 y1 y2
    obtain ⟨x0, x1, x2, x3, _, _, _, _⟩ := four (b_block kw HX.out lX)
    go_wp2
    go_ret
    exact ⟨rfl, k1.trans (kw.mono k1.size)⟩
  cases h4 : (l == -1 || workB a b c l)
  · rw [show rightB a b c f n l e d = false by simp only [rightB, h2, h3, h4]; rfl]
    go_enter Try.func51, Try.ntmps51
    go_wp2_with fail
    go_at_call 91; refine (iHeapOk_holds _ _ f _ hn HR.out).mono ?_; rintro x w1 ⟨rfl, hb⟩; rw [h2]
    replace kw := kw.trans (hb.mono kw.size)
    clear hb
    obtain ⟨x0, x1, x2, x3, _, _, _, _⟩ := four (b_block kw HX.out lX)
    obtain ⟨y0, y1, y2, _, _, _⟩ := three (b_block kw HP.out lP)
    go_wp2_with fail
    go_at_call 92; refine (noIdTwice_any hn (HR.out.below kw)).mono ?_; rintro x w1 ⟨rfl, hb⟩; rw [h3]
    replace kw := kw.trans (hb.mono kw.size)
    clear hb x0 x1 x2 x3 y0 y1 y2
    obtain ⟨x0, x1, x2, x3, _, _, _, _⟩ := four (b_block kw HX.out lX)
    obtain ⟨y0, y1, y2, _, _, _⟩ := three (b_block kw HP.out lP)
    go_wp2_with fail
    go_at_call 93; refine (lockRight_any _ _ _ _ _ _ hform).mono ?_; rintro x w1 ⟨rfl, hb⟩; rw [h4]
    replace kw := kw.trans (hb.mono kw.size)
    clear hb x0 x1 x2 x3 y0 y1 y2
    obtain ⟨x0, x1, x2, x3, _, _, _, _⟩ := four (b_block kw HX.out lX)
    go_wp2
    go_ret
    exact ⟨rfl, k1.trans (kw.mono k1.size)⟩
  cases h5 : (e == -1 || inB e 0 1000000000)
  · rw [show rightB a b c f n l e d = false by simp only [rightB, h2, h3, h4, h5]; rfl]
    go_enter Try.func51, Try.ntmps51
    go_wp2_with fail
    go_at_call 91; refine (iHeapOk_holds _ _ f _ hn HR.out).mono ?_; rintro x w1 ⟨rfl, hb⟩; rw [h2]
    replace kw := kw.trans (hb.mono kw.size)
    clear hb
    obtain ⟨x0, x1, x2, x3, _, _, _, _⟩ := four (b_block kw HX.out lX)
    obtain ⟨y0, y1, y2, _, _, _⟩ := three (b_block kw HP.out lP)
    go_wp2_with fail
    go_at_call 92; refine (noIdTwice_any hn (HR.out.below kw)).mono ?_; rintro x w1 ⟨rfl, hb⟩; rw [h3]
    replace kw := kw.trans (hb.mono kw.size)
    clear hb x0 x1 x2 x3 y0 y1 y2
    obtain ⟨x0, x1, x2, x3, _, _, _, _⟩ := four (b_block kw HX.out lX)
    obtain ⟨y0, y1, y2, _, _, _⟩ := three (b_block kw HP.out lP)
    go_wp2_with fail
    go_at_call 93; refine (lockRight_any _ _ _ _ _ _ hform).mono ?_; rintro x w1 ⟨rfl, hb⟩; rw [h4]
    replace kw := kw.trans (hb.mono kw.size)
    clear hb x0 x1 x2 x3 y0 y1 y2
    obtain ⟨x0, x1, x2, x3, _, _, _, _⟩ := four (b_block kw HX.out lX)
    obtain ⟨y0, y1, y2, _, _, _⟩ := three (b_block kw HP.out lP)
    go_wp2_with fail
    go_at_call 94; refine (earliestRight_any _ _ _ hform).mono ?_; rintro x w1 ⟨rfl, hb⟩; rw [h5]
    replace kw := kw.trans (hb.mono kw.size)
    clear hb x0 x1 x2 x3 y0 y1 y2
    obtain ⟨x0, x1, x2, x3, _, _, _, _⟩ := four (b_block kw HX.out lX)
    go_wp2
    go_ret
    exact ⟨rfl, k1.trans (kw.mono k1.size)⟩
  cases h6 : inB d 0 n
  · rw [show rightB a b c f n l e d = false by simp only [rightB, h2, h3, h4, h5, h6]; rfl]
    go_enter Try.func51, Try.ntmps51
    go_wp2_with fail
    go_at_call 91; refine (iHeapOk_holds _ _ f _ hn HR.out).mono ?_; rintro x w1 ⟨rfl, hb⟩; rw [h2]
    replace kw := kw.trans (hb.mono kw.size)
    clear hb
    obtain ⟨x0, x1, x2, x3, _, _, _, _⟩ := four (b_block kw HX.out lX)
    obtain ⟨y0, y1, y2, _, _, _⟩ := three (b_block kw HP.out lP)
    go_wp2_with fail
    go_at_call 92; refine (noIdTwice_any hn (HR.out.below kw)).mono ?_; rintro x w1 ⟨rfl, hb⟩; rw [h3]
    replace kw := kw.trans (hb.mono kw.size)
    clear hb x0 x1 x2 x3 y0 y1 y2
    obtain ⟨x0, x1, x2, x3, _, _, _, _⟩ := four (b_block kw HX.out lX)
    obtain ⟨y0, y1, y2, _, _, _⟩ := three (b_block kw HP.out lP)
    go_wp2_with fail
    go_at_call 93; refine (lockRight_any _ _ _ _ _ _ hform).mono ?_; rintro x w1 ⟨rfl, hb⟩; rw [h4]
    replace kw := kw.trans (hb.mono kw.size)
    clear hb x0 x1 x2 x3 y0 y1 y2
    obtain ⟨x0, x1, x2, x3, _, _, _, _⟩ := four (b_block kw HX.out lX)
    obtain ⟨y0, y1, y2, _, _, _⟩ := three (b_block kw HP.out lP)
    go_wp2_with fail
    go_at_call 94; refine (earliestRight_any _ _ _ hform).mono ?_; rintro x w1 ⟨rfl, hb⟩; rw [h5]
    replace kw := kw.trans (hb.mono kw.size)
    clear hb x0 x1 x2 x3 y0 y1 y2
    obtain ⟨x0, x1, x2, x3, _, _, _, _⟩ := four (b_block kw HX.out lX)
    obtain ⟨y0, y1, y2, _, _, _⟩ := three (b_block kw HP.out lP)
    go_wp2_with fail
    go_at_call 95; refine (deletedRight_any _ _ _ hn hform).mono ?_; rintro x w1 ⟨rfl, hb⟩; rw [h6]
    replace kw := kw.trans (hb.mono kw.size)
    clear hb x0 x1 x2 x3 y0 y1 y2
    obtain ⟨x0, x1, x2, x3, _, _, _, _⟩ := four (b_block kw HX.out lX)
    go_wp2
    go_ret
    exact ⟨rfl, k1.trans (kw.mono k1.size)⟩
  rw [show rightB a b c f n l e d = true by simp only [rightB, h2, h3, h4, h5, h6]; rfl]
  go_enter Try.func51, Try.ntmps51
  go_wp2_with fail
  go_at_call 91; refine (iHeapOk_holds _ _ f _ hn HR.out).mono ?_; rintro x w1 ⟨rfl, hb⟩; rw [h2]
  replace kw := kw.trans (hb.mono kw.size)
  clear hb
  obtain ⟨x0, x1, x2, x3, _, _, _, _⟩ := four (b_block kw HX.out lX)
  obtain ⟨y0, y1, y2, _, _, _⟩ := three (b_block kw HP.out lP)
  go_wp2_with fail
  go_at_call 92; refine (noIdTwice_any hn (HR.out.below kw)).mono ?_; rintro x w1 ⟨rfl, hb⟩; rw [h3]
  replace kw := kw.trans (hb.mono kw.size)
  clear hb x0 x1 x2 x3 y0 y1 y2
  obtain ⟨x0, x1, x2, x3, _, _, _, _⟩ := four (b_block kw HX.out lX)
  obtain ⟨y0, y1, y2, _, _, _⟩ := three (b_block kw HP.out lP)
  go_wp2_with fail
  go_at_call 93; refine (lockRight_any _ _ _ _ _ _ hform).mono ?_; rintro x w1 ⟨rfl, hb⟩; rw [h4]
  replace kw := kw.trans (hb.mono kw.size)
  clear hb x0 x1 x2 x3 y0 y1 y2
  obtain ⟨x0, x1, x2, x3, _, _, _, _⟩ := four (b_block kw HX.out lX)
  obtain ⟨y0, y1, y2, _, _, _⟩ := three (b_block kw HP.out lP)
  go_wp2_with fail
  go_at_call 94; refine (earliestRight_any _ _ _ hform).mono ?_; rintro x w1 ⟨rfl, hb⟩; rw [h5]
  replace kw := kw.trans (hb.mono kw.size)
  clear hb x0 x1 x2 x3 y0 y1 y2
  obtain ⟨x0, x1, x2, x3, _, _, _, _⟩ := four (b_block kw HX.out lX)
  obtain ⟨y0, y1, y2, _, _, _⟩ := three (b_block kw HP.out lP)
  go_wp2_with fail
  go_at_call 95; refine (deletedRight_any _ _ _ hn hform).mono ?_; rintro x w1 ⟨rfl, hb⟩; rw [h6]
  replace kw := kw.trans (hb.mono kw.size)
  clear hb x0 x1 x2 x3 y0 y1 y2
  obtain ⟨x0, x1, x2, x3, _, _, _, _⟩ := four (b_block kw HX.out lX)
  go_wp2
  go_ret
  exact ⟨rfl, k1.trans (kw.mono k1.size)⟩


set_option maxRecDepth 100000 in
set_option maxHeartbeats 2000000 in
theorem imProcOk_any : AsksR 14 := by
  intro a b c v n f l e d w hn h
  have k0 := (Below.refl w.heap.size w).alloc (Nat.le_refl _) (.cells #[.int .i64 a, .int .i64 b, .int .i64 c] 25)
  have k1 := k0.alloc k0.size (.cells #[v, .int .i64 l, .int .i64 e, .int .i64 d] 28)
  have HR := Lib.hid (h.below k1)
  have hP := alloc_block (.cells #[v, .int .i64 l, .int .i64 e, .int .i64 d] 28) (heap_alloc_new w (.cells #[.int .i64 a, .int .i64 b, .int .i64 c] 25))
  have lP := lt_of_block hP
  have HP := Lib.hid hP
  have hX := heap_alloc_new (w.alloc (.cells #[.int .i64 a, .int .i64 b, .int .i64 c] 25)) (.cells #[v, .int .i64 l, .int .i64 e, .int .i64 d] 28)
  rw [show (w.alloc (.cells #[.int .i64 a, .int .i64 b, .int .i64 c] 25)).heap.size = w.heap.size + 1 by simp] at hX
  have lX := lt_of_block hX
  have HX := Lib.hid hX
  clear hP hX
  obtain ⟨va, vc, hv⟩ := h.form
  have hform : ∃ a cap, v = .slice a n cap := h.form
  clear h
  subst hv
  have kw := Below.refl ((w.alloc (.cells #[.int .i64 a, .int .i64 b, .int .i64 c] 25)).alloc (.cells #[.slice va n vc, .int .i64 l, .int .i64 e, .int .i64 d] 28)).heap.size ((w.alloc (.cells #[.int .i64 a, .int .i64 b, .int .i64 c] 25)).alloc (.cells #[.slice va n vc, .int .i64 l, .int .i64 e, .int .i64 d] 28))
  obtain ⟨x0, x1, x2, x3, _, _, _, _⟩ := four HX.out
  obtain ⟨y0, y1, y2, _, _, _⟩ := three HP.out
  cases h1 : planB a b c
  · rw [show procOkB a b c f n l e d = false by rw [procOkB, h1, Bool.false_and]]
    go_enter Try.func14, Try.ntmps14
    go_wp2_with fail
    (first | (go_region_with (first
      | (go_at_call 50; refine (right_any _ _ _ _).mono ?_; rintro x wp ⟨rfl, hb⟩; rw [h1]; have kp := kw.drew.trans (hb.mono kw.drew.size); replace kw := kp; clear hb))) | fail)
    all_goals
      clear x0 x1 x2 x3 y0 y1 y2
      go_wp2
      go_ret
      exact ⟨rfl, k1.trans (kw.mono k1.size)⟩
  · have hR := Lib.hid (show rightB a b c f n l e d = procOkB a b c f n l e d by rw [procOkB_eq, h1, Bool.true_and]; rfl)
    go_enter Try.func14, Try.ntmps14
    go_wp2_with fail
    go_region_held3 (fun w' => w'.cell? ⟨w.heap.size, 0, none⟩ = some (.int .i64 a) ∧ w'.cell? ⟨w.heap.size, 1, none⟩ = some (.int .i64 b) ∧ w'.cell? ⟨w.heap.size, 2, none⟩ = some (.int .i64 c) ∧ w'.cell? ⟨w.heap.size + 1, 0, none⟩ = some ((.slice va n vc)) ∧ w'.cell? ⟨w.heap.size + 1, 1, none⟩ = some (.int .i64 l) ∧ w'.cell? ⟨w.heap.size + 1, 2, none⟩ = some (.int .i64 e) ∧ w'.cell? ⟨w.heap.size + 1, 3, none⟩ = some (.int .i64 d))
      (first | exact ⟨y0, y1, y2, x0, x1, x2, x3⟩ | exact ⟨(kw.cell (p := ⟨w.heap.size, 0, none⟩) lP).trans (cell_of_block HP.out 0), (kw.cell (p := ⟨w.heap.size, 1, none⟩) lP).trans (cell_of_block HP.out 1), (kw.cell (p := ⟨w.heap.size, 2, none⟩) lP).trans (cell_of_block HP.out 2), (kw.cell (p := ⟨w.heap.size + 1, 0, none⟩) lX).trans (cell_of_block HX.out 0), (kw.cell (p := ⟨w.heap.size + 1, 1, none⟩) lX).trans (cell_of_block HX.out 1), (kw.cell (p := ⟨w.heap.size + 1, 2, none⟩) lX).trans (cell_of_block HX.out 2), (kw.cell (p := ⟨w.heap.size + 1, 3, none⟩) lX).trans (cell_of_block HX.out 3)⟩ | go_keep)
      (first
        | (go_at_call 50; refine (right_any _ _ _ _).mono ?_; rintro x wp ⟨rfl, hb⟩; rw [h1]; have kp := kw.drew.trans (hb.mono kw.drew.size); replace kw := kp; clear hb)
        | (go_at_call 48; refine (processorOf_any _ _ _ hform).mono ?_; rintro x w2 ⟨rfl, hb⟩; have kp2 := kw.trans (hb.mono kw.size); replace kw := kp2; clear hb)
        | (go_at_call 51; refine (rightIn_any _ _ _ _ _ _ hn (HR.out.below kw)).mono ?_; rintro x w3 ⟨rfl, hb⟩; rw [hR.out]; have kp3 := kw.trans (hb.mono kw.size); replace kw := kp3; clear hb))
    all_goals
      clear x0 x1 x2 x3 y0 y1 y2
      go_wp2
      go_ret
      exact ⟨rfl, k1.trans (kw.mono k1.size)⟩

end Go.Proofs.Ytnmaljieaflnmaa

/-
  Timers, in the program: statuses, numbers, place, next.
-/
namespace Go.Proofs.Ytnmaljieaflnmaa
open Go.RowKit
set_option linter.unusedVariables false

set_option maxHeartbeats 1000000 in
/-- is there such a status? -/
theorem known_any (s : Int) (w : World) :
    Calls Try.prog 143 #[.int .i64 s] w fun e w' => e = .returned (.bool (inB s 0 7)) ∧ w = w' := by
  by_cases h0 : s = 0
  · subst h0
    go_enter Try.func143, Try.ntmps143
    go_wp2_with (go_at_call 144; go_in)
    go_ret
    exact ⟨rfl, rfl⟩
  by_cases h1 : s = 1
  · subst h1
    go_enter Try.func143, Try.ntmps143
    go_wp2_with (go_at_call 144; go_in)
    go_ret
    exact ⟨rfl, rfl⟩
  by_cases h2 : s = 2
  · subst h2
    go_enter Try.func143, Try.ntmps143
    go_wp2_with (go_at_call 144; go_in)
    go_ret
    exact ⟨rfl, rfl⟩
  by_cases h3 : s = 3
  · subst h3
    go_enter Try.func143, Try.ntmps143
    go_wp2_with (go_at_call 144; go_in)
    go_ret
    exact ⟨rfl, rfl⟩
  by_cases h4 : s = 4
  · subst h4
    go_enter Try.func143, Try.ntmps143
    go_wp2_with (go_at_call 144; go_in)
    go_ret
    exact ⟨rfl, rfl⟩
  by_cases h5 : s = 5
  · subst h5
    go_enter Try.func143, Try.ntmps143
    go_wp2_with (go_at_call 144; go_in)
    go_ret
    exact ⟨rfl, rfl⟩
  by_cases h6 : s = 6
  · subst h6
    go_enter Try.func143, Try.ntmps143
    go_wp2_with (go_at_call 144; go_in)
    go_ret
    exact ⟨rfl, rfl⟩
  by_cases h7 : s = 7
  · subst h7
    go_enter Try.func143, Try.ntmps143
    go_wp2_with (go_at_call 144; go_in)
    go_ret
    exact ⟨rfl, rfl⟩
  have e : inB s 0 7 = false := by
    cases hx : inB s 0 7
    · rfl
    · have := inB_iff.1 hx; omega
  rw [e]
  have b0 : (s == 0) = false := by simpa using h0
  have b1 : (s == 1) = false := by simpa using h1
  have b2 : (s == 2) = false := by simpa using h2
  have b3 : (s == 3) = false := by simpa using h3
  have b4 : (s == 4) = false := by simpa using h4
  have b5 : (s == 5) = false := by simpa using h5
  have b6 : (s == 6) = false := by simpa using h6
  have b7 : (s == 7) = false := by simpa using h7
  go_enter Try.func143, Try.ntmps143
  go_wp2_with (go_at_call 144; go_in)
  go_ret
  exact ⟨rfl, rfl⟩

set_option maxHeartbeats 1000000 in
theorem stInHeap_any (s : Int) (w : World) :
    Calls Try.prog 142 #[.int .i64 s] w fun e w' => e = .returned (.bool (inHeapB s)) ∧ w = w' := by
  by_cases h1 : s = 1
  · subst h1
    go_enter Try.func142, Try.ntmps142
    go_wp2
    go_ret
    exact ⟨rfl, rfl⟩
  by_cases h3 : s = 3
  · subst h3
    go_enter Try.func142, Try.ntmps142
    go_wp2
    go_ret
    exact ⟨rfl, rfl⟩
  by_cases h4 : s = 4
  · subst h4
    go_enter Try.func142, Try.ntmps142
    go_wp2
    go_ret
    exact ⟨rfl, rfl⟩
  by_cases h5 : s = 5
  · subst h5
    go_enter Try.func142, Try.ntmps142
    go_wp2
    go_ret
    exact ⟨rfl, rfl⟩
  by_cases h6 : s = 6
  · subst h6
    go_enter Try.func142, Try.ntmps142
    go_wp2
    go_ret
    exact ⟨rfl, rfl⟩
  have e : inHeapB s = false := by simp [inHeapB, h1, h3, h4, h5, h6]
  rw [e]
  have b1 : (s == 1) = false := by simpa using h1
  have b3 : (s == 3) = false := by simpa using h3
  have b4 : (s == 4) = false := by simpa using h4
  have b5 : (s == 5) = false := by simpa using h5
  have b6 : (s == 6) = false := by simpa using h6
  go_enter Try.func142, Try.ntmps142
  go_wp2
  go_ret
  exact ⟨rfl, rfl⟩

/-- a timer's numbers -/
def numB (t : Tm) : Bool := inB t.wh 0 1000000000 && (inB t.nx 0 1000000000 && (inB t.pe 0 1000000000 && (inB t.ge 0 100000 && (inB t.ki 0 1 && inB t.ma 0 1000000001))))
/-- the place, as the program tells it -/
def putB (a b c : Int) (t : Tm) : Bool := if t.st = 2 then procB a b c t.pl || t.pl == -1 else if inHeapB t.st then procB a b c t.pl else inB t.st 0 7 && t.pl == -1

set_option maxRecDepth 100000 in
set_option maxHeartbeats 2000000 in
theorem numbers_any (t : Tm) (w : World) :
    Calls Try.prog 135 #[tmV t] w fun e w' => e = .returned (.bool (numB t)) ∧ Below w.heap.size w w' := by
  have k0 := (Below.refl w.heap.size w).alloc (Nat.le_refl _) (.cells #[.int .i64 t.st, .int .i64 t.wh, .int .i64 t.nx, .int .i64 t.pe, .int .i64 t.pl, .int .i64 t.ge, .int .i64 t.ki, .int .i64 t.ma] 96)
  cases h0 : inB t.wh 0 1000000000
  · rw [show numB t = false by simp [numB, h0]]
    go_enter Try.func135, Try.ntmps135
    go_wp2_with (first
        | (go_at_call 122; refine (isTime_any _ _).mono ?_; rintro e w' ⟨rfl, rfl⟩)
        | (go_at_call 90; refine (within_any _ _ _ _).mono ?_; rintro e w' ⟨rfl, rfl⟩))
    go_ret
    exact ⟨rfl, k0⟩
  cases h1 : inB t.nx 0 1000000000
  · rw [show numB t = false by simp [numB, h0, h1]]
    go_enter Try.func135, Try.ntmps135
    go_wp2_with (first
        | (go_at_call 122; refine (isTime_any _ _).mono ?_; rintro e w' ⟨rfl, rfl⟩)
        | (go_at_call 90; refine (within_any _ _ _ _).mono ?_; rintro e w' ⟨rfl, rfl⟩))
    go_ret
    exact ⟨rfl, k0⟩
  cases h2 : inB t.pe 0 1000000000
  · rw [show numB t = false by simp [numB, h0, h1, h2]]
    go_enter Try.func135, Try.ntmps135
    go_wp2_with (first
        | (go_at_call 122; refine (isTime_any _ _).mono ?_; rintro e w' ⟨rfl, rfl⟩)
        | (go_at_call 90; refine (within_any _ _ _ _).mono ?_; rintro e w' ⟨rfl, rfl⟩))
    go_ret
    exact ⟨rfl, k0⟩
  cases h3 : inB t.ge 0 100000
  · rw [show numB t = false by simp [numB, h0, h1, h2, h3]]
    go_enter Try.func135, Try.ntmps135
    go_wp2_with (first
        | (go_at_call 122; refine (isTime_any _ _).mono ?_; rintro e w' ⟨rfl, rfl⟩)
        | (go_at_call 90; refine (within_any _ _ _ _).mono ?_; rintro e w' ⟨rfl, rfl⟩))
    go_ret
    exact ⟨rfl, k0⟩
  cases h4 : inB t.ki 0 1
  · rw [show numB t = false by simp [numB, h0, h1, h2, h3, h4]]
    go_enter Try.func135, Try.ntmps135
    go_wp2_with (first
        | (go_at_call 122; refine (isTime_any _ _).mono ?_; rintro e w' ⟨rfl, rfl⟩)
        | (go_at_call 90; refine (within_any _ _ _ _).mono ?_; rintro e w' ⟨rfl, rfl⟩))
    go_ret
    exact ⟨rfl, k0⟩
  cases h5 : inB t.ma 0 1000000001
  · rw [show numB t = false by simp [numB, h0, h1, h2, h3, h4, h5]]
    go_enter Try.func135, Try.ntmps135
    go_wp2_with (first
        | (go_at_call 122; refine (isTime_any _ _).mono ?_; rintro e w' ⟨rfl, rfl⟩)
        | (go_at_call 90; refine (within_any _ _ _ _).mono ?_; rintro e w' ⟨rfl, rfl⟩))
    go_ret
    exact ⟨rfl, k0⟩
  rw [show numB t = true by simp [numB, h0, h1, h2, h3, h4, h5]]
  go_enter Try.func135, Try.ntmps135
  go_wp2_with (first
      | (go_at_call 122; refine (isTime_any _ _).mono ?_; rintro e w' ⟨rfl, rfl⟩)
      | (go_at_call 90; refine (within_any _ _ _ _).mono ?_; rintro e w' ⟨rfl, rfl⟩))
  go_ret
  exact ⟨rfl, k0⟩

set_option maxRecDepth 100000 in
set_option maxHeartbeats 2000000 in
theorem next_any (t : Tm) (w : World) :
    Calls Try.prog 137 #[tmV t] w fun e w' => e = .returned (.bool (nextB t)) ∧ Below w.heap.size w w' := by
  have k0 := (Below.refl w.heap.size w).alloc (Nat.le_refl _) (.cells #[.int .i64 t.st, .int .i64 t.wh, .int .i64 t.nx, .int .i64 t.pe, .int .i64 t.pl, .int .i64 t.ge, .int .i64 t.ki, .int .i64 t.ma] 96)
  obtain ⟨st, wh, nx, pe, pl, ge, ki, ma⟩ := t
  by_cases h3 : st = 3
  · subst h3
    rw [show nextB ⟨3, wh, nx, pe, pl, ge, ki, ma⟩ = decide (nx < wh) by simp [nextB]]
    go_enter Try.func137, Try.ntmps137
    go_wp2
    go_ret
    exact ⟨rfl, k0⟩
  by_cases h4 : st = 4
  · subst h4
    rw [show nextB ⟨4, wh, nx, pe, pl, ge, ki, ma⟩ = decide (wh ≤ nx) by simp [nextB]]
    go_enter Try.func137, Try.ntmps137
    go_wp2
    go_ret
    exact ⟨rfl, k0⟩
  rw [show nextB ⟨st, wh, nx, pe, pl, ge, ki, ma⟩ = true by simp [nextB, h3, h4]]
  have b3 : (st == 3) = false := by simpa using h3
  have b4 : (st == 4) = false := by simpa using h4
  go_enter Try.func137, Try.ntmps137
  go_wp2
  go_ret
  exact ⟨rfl, k0⟩

end Go.Proofs.Ytnmaljieaflnmaa

/-
  The draws: the code, a cursor over its bytes, and the numbers that it gives; nothing but its own block is written.
-/
namespace Go.Proofs.Ytnmaljieaflnmaa
open Go.RowKit Go.Joins Go.ChangeShapes Go.WideShapes Go.ChangeAt
set_option linter.unusedVariables false

/-! ### The code and the cursor -/
/-- the bytes of the code: no memory at all, or bytes that can be read, in a block below B -/
def CodeAt (w : World) (B : Nat) (sl : Value) (len : Nat) : Prop :=
  (len = 0 ∧ ∃ (a : Option Addr) (cap : Nat), sl = .slice a 0 cap) ∨ ∃ (b off cap : Nat) (zs : List Int), sl = .slice (some ⟨b, off, none⟩) len cap ∧ b < B ∧ B ≤ w.heap.size ∧ (∀ k, k < len → w.cell? ⟨b, off + k, none⟩ = some (.int .u8 (zs.getD k 0))) ∧ ∀ k, 0 ≤ zs.getD k 0 ∧ zs.getD k 0 ≤ 255
theorem CodeAt.kept {w w' : World} {B len g : Nat} {sl : Value} (h : CodeAt w B sl len) (hg : w.grownBy w' (some g)) (hB : B ≤ g) : CodeAt w' B sl len := by
  rcases h with h | ⟨b, off, cap, zs, h1, h2, h3, h4, h5⟩
  · exact .inl h
  · exact .inr ⟨b, off, cap, zs, h1, h2, Nat.le_trans h3 hg.size, fun k hk => (g_cell hg (by omega) (by omega) _).trans (h4 k hk), h5⟩
/-- the cursor's block -/
def CurAt (w : World) (B g : Nat) (sl : Value) (len : Nat) : Prop :=
  B ≤ g ∧ len ≤ 4096 ∧ CodeAt w B sl len ∧ ∃ (k : Nat) (h : Int), k ≤ len ∧ w.heap[g]? = some (.cells #[sl, .int .i64 (k : Int), .int .i64 h] 114 (0, 0))
theorem CurAt.lt {w : World} {B g len : Nat} {sl : Value} (h : CurAt w B g sl len) : g < w.heap.size := by
  obtain ⟨_, _, _, k, x, _, hh⟩ := h
  exact lt_of_block hh
theorem CurAt.alloc {w : World} {B g len : Nat} {sl : Value} (h : CurAt w B g sl len) (o : Obj) : CurAt (w.alloc o) B g sl len := by
  have hl := h.lt
  obtain ⟨h1, h2, h3, k, x, hk, hh⟩ := h
  exact ⟨h1, h2, h3.kept (World.grownBy_alloc w o (some g)) h1, k, x, hk, (Below.heap_alloc w o g hl).trans hh⟩
theorem CurAt.kept {w w' : World} {B g b len : Nat} {sl : Value} (h : CurAt w B g sl len) (hk : w.grownBy w' (some b)) (hb : B ≤ b) (hn : b ≠ g) : CurAt w' B g sl len := by
  have hl := h.lt
  obtain ⟨h1, h2, h3, k, x, hk1, hh⟩ := h
  exact ⟨h1, h2, h3.kept hk hb, k, x, hk1, (hk.block g hl (by intro e; injection e; omega)).trans hh⟩
theorem CurAt.set {w : World} {B g len : Nat} {sl : Value} (h : CurAt w B g sl len) {b : Nat} (hb : B ≤ b) (hn : b ≠ g) (o : Nat) (u : Value) : CurAt (w.setCell ⟨b, o, none⟩ u) B g sl len :=
  h.kept (g_own (g_refl w _) o u) hb hn
theorem CurAt.base {w : World} {B g len : Nat} {sl : Value} (h : CurAt w B g sl len) : B ≤ g := h.1
/-- a call that draws a number from lo to hi -/
def Drawn (B g : Nat) (sl : Value) (len : Nat) (lo hi : Int) (w : World) (e : Ending) (w' : World) : Prop :=
  ∃ x : Int, lo ≤ x ∧ x ≤ hi ∧ e = .returned (.int .i64 x) ∧ CurAt w' B g sl len ∧ w.grownBy w' (some g)

def ByteIn (g k : Nat) (w : World) (e : Ending) (w' : World) : Prop :=
  ∃ (x y : Int) (n : Nat), 0 ≤ x ∧ x ≤ 255 ∧ e = .returned (.int .i64 x) ∧ w' = (((w.setCell ⟨g, 2, none⟩ (.int .i64 y)).drewN n).setCell ⟨g, 1, none⟩ (.int .i64 ((k : Int) + 1)))
def ByteOut (g : Nat) (w : World) (e : Ending) (w' : World) : Prop :=
  ∃ (x y : Int) (n : Nat), 0 ≤ x ∧ x ≤ 255 ∧ e = .returned (.int .i64 x) ∧ w' = ((w.setCell ⟨g, 2, none⟩ (.int .i64 y)).drewN n)

set_option maxHeartbeats 400000 in
theorem l1Byte_in (g b off len cap k : Nat) (h z : Int) (w : World) (hlen : len ≤ 4096) (hk : k < len)
    (h0 : w.cell? ⟨g, 0, none⟩ = some (.slice (some ⟨b, off, none⟩) len cap)) (h1 : w.cell? ⟨g, 1, none⟩ = some (.int .i64 (k : Int))) (h2 : w.cell? ⟨g, 2, none⟩ = some (.int .i64 h))
    (f1 : w.frozen? ⟨g, 1, none⟩ = false) (f2 : w.frozen? ⟨g, 2, none⟩ = false) (hne : b ≠ g) (hc : w.cell? ⟨b, off + k, none⟩ = some (.int .u8 z)) :
    Calls Try.prog 87 #[.pointer (some ⟨g, 0, none⟩)] w (ByteIn g k w) := by
  go_enter Try.func87, Try.ntmps87
  go_wp2
  go_quiet (fail)
  go_wp2
  go_quiet (fail)
  go_wp2
  go_quiet (fail)
  go_wp2
  go_ret
  exact ⟨_, _, _, (and_i64 _ _ (by decide) (by decide)).1, (and_i64 _ _ (by decide) (by decide)).2, rfl, rfl⟩

set_option maxHeartbeats 400000 in
theorem l1Byte_out (g len cap k : Nat) (a : Option Addr) (h : Int) (w : World) (hlen : len ≤ 4096) (hk : len ≤ k) (hk2 : k ≤ 4096)
    (h0 : w.cell? ⟨g, 0, none⟩ = some (.slice a len cap)) (h1 : w.cell? ⟨g, 1, none⟩ = some (.int .i64 (k : Int))) (h2 : w.cell? ⟨g, 2, none⟩ = some (.int .i64 h))
    (f2 : w.frozen? ⟨g, 2, none⟩ = false) :
    Calls Try.prog 87 #[.pointer (some ⟨g, 0, none⟩)] w (ByteOut g w) := by
  go_enter Try.func87, Try.ntmps87
  go_wp2
  go_quiet (fail)
  go_wp2
  go_quiet (fail)
  go_wp2
  simp only [World.drewN_drewN]
  go_ret
  exact ⟨_, _, _, (and_i64 _ _ (by decide) (by decide)).1, (and_i64 _ _ (by decide) (by decide)).2, rfl, rfl⟩

theorem l1Byte_any {B g len : Nat} {sl : Value} {w : World} (hC : CurAt w B g sl len) :
    Calls Try.prog 87 #[.pointer (some ⟨g, 0, none⟩)] w (Drawn B g sl len 0 255 w) := by
  have hlt := hC.lt
  obtain ⟨hB, hlen, hcode, k, h, hk, hh⟩ := hC
  have f := unfrozen_of_block hh
  have c0 : w.cell? ⟨g, 0, none⟩ = some sl := cell_of_block hh 0
  have c1 : w.cell? ⟨g, 1, none⟩ = some (.int .i64 (k : Int)) := cell_of_block hh 1
  have c2 : w.cell? ⟨g, 2, none⟩ = some (.int .i64 h) := cell_of_block hh 2
  by_cases hkl : k < len
  · rcases hcode with ⟨hz, _⟩ | ⟨b, off, cap, zs, rfl, hb, hBs, hcell, hzs⟩
    · omega
    · refine (l1Byte_in g b off len cap k h _ w hlen hkl c0 c1 c2 (f 1) (f 2) (by omega) (hcell k hkl)).mono fun e w' he => ?_
      obtain ⟨x, y, n, hx0, hx1, rfl, rfl⟩ := he
      have hg : w.grownBy (((w.setCell ⟨g, 2, none⟩ (.int .i64 y)).drewN n).setCell ⟨g, 1, none⟩ (.int .i64 ((k : Int) + 1))) (some g) := g_own (g_drewN (g_own (g_refl w _) 2 _) n) 1 _
      have hb2 : ((w.setCell ⟨g, 2, none⟩ (.int .i64 y)).drewN n).heap[g]? = some (.cells #[.slice (some ⟨b, off, none⟩) len cap, .int .i64 (k : Int), .int .i64 y] 114 (0, 0)) := block_setCell hh (i := 2) (.int .i64 y)
      have hb3 := block_setCell hb2 (i := 1) (.int .i64 ((k : Int) + 1))
      simp only [List.setIfInBounds_toArray, List.set_cons_succ, List.set_cons_zero] at hb3
      exact ⟨x, hx0, hx1, rfl, ⟨hB, hlen, CodeAt.kept (.inr ⟨b, off, cap, zs, rfl, hb, hBs, hcell, hzs⟩) hg hB, k + 1, y, hkl, hb3⟩, hg⟩
  · have hsl : ∃ a cap, sl = .slice a len cap := by
      rcases hcode with ⟨rfl, a, cap, rfl⟩ | ⟨b, off, cap, zs, rfl, _⟩
      · exact ⟨_, _, rfl⟩
      · exact ⟨_, _, rfl⟩
    obtain ⟨a, cap, rfl⟩ := hsl
    refine (l1Byte_out g len cap k a h w hlen (by omega) (by omega) c0 c1 c2 (f 2)).mono fun e w' he => ?_
    obtain ⟨x, y, n, hx0, hx1, rfl, rfl⟩ := he
    have hg : w.grownBy ((w.setCell ⟨g, 2, none⟩ (.int .i64 y)).drewN n) (some g) := g_drewN (g_own (g_refl w _) 2 _) n
    exact ⟨x, hx0, hx1, rfl, ⟨hB, hlen, hcode.kept hg hB, k, y, hk, block_setCell hh (i := 2) (.int .i64 y)⟩, hg⟩

/-! ### numbers from 0 on -/
set_option maxHeartbeats 400000 in
theorem l1Below_any {B g len : Nat} {sl : Value} {w : World} (n : Int) (hn : 1 ≤ n) (hn2 : n ≤ 4611686018427387904) (hC : CurAt w B g sl len) :
    Calls Try.prog 43 #[.pointer (some ⟨g, 0, none⟩), .int .i64 n] w (Drawn B g sl len 0 (n - 1) w) := by
  by_cases h256 : n ≤ 256
  · go_enter Try.func43, Try.ntmps43
    go_wp2_with (go_at_call 87; refine (l1Byte_any hC).mono ?_; rintro e w1 ⟨x, hx0, hx1, rfl, hC1, hg1⟩)
    go_ret
    exact ⟨_, Int.emod_nonneg _ (by omega), by have := Int.emod_lt_of_pos x (show 0 < n by omega); omega, rfl, hC1, hg1⟩
  · go_enter Try.func43, Try.ntmps43
    go_wp2_with fail
    go_at_call 87; refine (l1Byte_any hC).mono ?_; rintro e w1 ⟨x1, a1, b1, rfl, hC1, hg1⟩
    go_wp2_with fail
    go_at_call 87; refine (l1Byte_any hC1).mono ?_; rintro e w2 ⟨x2, a2, b2, rfl, hC2, hg2⟩
    go_wp2_with fail
    go_at_call 87; refine (l1Byte_any hC2).mono ?_; rintro e w3 ⟨x3, a3, b3, rfl, hC3, hg3⟩
    go_wp2_with fail
    go_at_call 87; refine (l1Byte_any hC3).mono ?_; rintro e w4 ⟨x4, a4, b4, rfl, hC4, hg4⟩
    go_wp2
    go_ret
    exact ⟨_, Int.emod_nonneg _ (by omega), by have := Int.emod_lt_of_pos (x1 * 16777216 + x2 * 65536 + x3 * 256 + x4) (show 0 < n by omega); omega, rfl, hC4, g_trans (g_trans (g_trans hg1 hg2) hg3) hg4⟩

set_option maxHeartbeats 400000 in
theorem l1From_any {B g len : Nat} {sl : Value} {w : World} (lo hi : Int) (h0 : -1099511627776 ≤ lo) (h1 : lo ≤ hi) (h2 : hi ≤ 1099511627776) (hC : CurAt w B g sl len) :
    Calls Try.prog 45 #[.pointer (some ⟨g, 0, none⟩), .int .i64 lo, .int .i64 hi] w (Drawn B g sl len lo hi w) := by
  go_enter Try.func45, Try.ntmps45
  go_wp2_with fail
  go_at_call 43; refine (l1Below_any _ (by omega) (by omega) hC).mono ?_; rintro e w1 ⟨x, hx0, hx1, rfl, hC1, hg1⟩
  go_wp2
  go_ret
  exact ⟨_, by omega, by omega, rfl, hC1, hg1⟩

/-- a call that draws yes or no -/
def DrawnB (B g : Nat) (sl : Value) (len : Nat) (w : World) (e : Ending) (w' : World) : Prop :=
  ∃ x : Bool, e = .returned (.bool x) ∧ CurAt w' B g sl len ∧ w.grownBy w' (some g)
set_option maxHeartbeats 400000 in
theorem l1Once_any {B g len : Nat} {sl : Value} {w : World} (n : Int) (hn : 1 ≤ n) (hn2 : n ≤ 4611686018427387904) (hC : CurAt w B g sl len) :
    Calls Try.prog 42 #[.pointer (some ⟨g, 0, none⟩), .int .i64 n] w (DrawnB B g sl len w) := by
  go_enter Try.func42, Try.ntmps42
  go_wp2_with fail
  go_at_call 43; refine (l1Below_any _ hn hn2 hC).mono ?_; rintro e w1 ⟨x, hx0, hx1, rfl, hC1, hg1⟩
  go_wp2
  go_ret
  exact ⟨_, rfl, hC1, hg1⟩

theorem CodeAt.below {w w' : World} {B len : Nat} {sl : Value} (h : CodeAt w B sl len) (hb : Below B w w') : CodeAt w' B sl len := by
  rcases h with h | ⟨b, off, cap, zs, h1, h2, h3, h4, h5⟩
  · exact .inl h
  · exact .inr ⟨b, off, cap, zs, h1, h2, Nat.le_trans h3 hb.size, fun k hk => (hb.cell (p := ⟨b, off + k, none⟩) h2).trans (h4 k hk), h5⟩

/-- a cursor made new: one new block -/
def NewCur (sl : Value) (w : World) (e : Ending) (w' : World) : Prop :=
  ∃ h : Int, e = .returned (.pointer (some ⟨w.heap.size, 0, none⟩)) ∧ w' = w.alloc (.cells #[sl, .int .i64 0, .int .i64 h] 114)

set_option maxHeartbeats 400000 in
theorem l1New_some (b off len cap : Nat) (zs : List Int) (w : World) (hlen : len ≤ 4096) (hcell : ∀ k, k < len → w.cell? ⟨b, off + k, none⟩ = some (.int .u8 (zs.getD k 0))) :
    Calls Try.prog 39 #[.slice (some ⟨b, off, none⟩) len cap] w (NewCur (.slice (some ⟨b, off, none⟩) len cap) w) := by
  have H := Lib.hid hcell
  clear hcell
  go_enter Try.func39, Try.ntmps39
  go_wp2
  go_loop [3, 4] (fun h i => ∃ (k : Nat) (x : Int), k ≤ len ∧ i = .int .i64 k ∧ h = .int .i64 x) (fun _ i => len - (intOf i).toNat)
  case atStart => exact ⟨0, _, Nat.zero_le _, rfl, rfl⟩
  case round =>
    obtain ⟨k, x, hk, rfl, rfl⟩ := hrel
    by_cases hlt : k < len
    · have hc := H.out k hlt
      go_wp2
      go_round
      case rel => exact ⟨k + 1, _, by omega, by go_num, rfl⟩
      case measure => simp [intOf]; omega
    · go_wp2
      go_ret
      exact ⟨_, rfl, rfl⟩

set_option maxHeartbeats 400000 in
theorem l1New_none (a : Option Addr) (cap : Nat) (w : World) :
    Calls Try.prog 39 #[.slice a 0 cap] w (NewCur (.slice a 0 cap) w) := by
  go_enter Try.func39, Try.ntmps39
  go_wp2
  go_loop [3, 4] (fun h i => i = .int .i64 0 ∧ ∃ x : Int, h = .int .i64 x) (fun _ i => 0)
  case atStart => exact ⟨rfl, _, rfl⟩
  case round =>
    obtain ⟨rfl, x, rfl⟩ := hrel
    go_wp2
    go_ret
    exact ⟨_, rfl, rfl⟩

theorem l1New_any {B len : Nat} {sl : Value} {w : World} (n : Nat) (hn : n = w.heap.size) (hlen : len ≤ 4096) (hcode : CodeAt w B sl len) (hB : B ≤ n) :
    Calls Try.prog 39 #[sl] w fun e w' => e = .returned (.pointer (some ⟨n, 0, none⟩)) ∧ CurAt w' B n sl len ∧ Below n w w' := by
  subst hn
  have core : Calls Try.prog 39 #[sl] w (NewCur sl w) := by
    rcases hcode with ⟨rfl, a, cap, rfl⟩ | ⟨b, off, cap, zs, rfl, h2, h3, h4, h5⟩
    · exact l1New_none a cap w
    · exact l1New_some b off len cap zs w hlen h4
  refine core.mono fun e w' he => ?_
  obtain ⟨h, rfl, rfl⟩ := he
  exact ⟨rfl, ⟨hB, hlen, hcode.kept (World.grownBy_alloc w _ (some w.heap.size)) hB, 0, h, Nat.zero_le _, heap_alloc_new w _⟩, (Below.refl _ _).alloc (Nat.le_refl _) _⟩

set_option maxRecDepth 100000 in
/-- a code that came in, as data: what the walk is told of it -/
theorem code_in {H : Type} {enc : TypeId × Value → H} {W : World} {base : Nat} {v : Value} {d : DataW H} {p : List MemPlace}
    (hv : Value.okWide Try.prog W .any base 22 v) (h : DataW.Trod enc Try.prog W 0 (fun _ => true) true 22 v d p) :
    ∃ (a : Option Addr) (len cap : Nat), v = .slice a len cap ∧ len ≤ maxLen ∧ CodeAt W W.heap.size v len := by
  obtain ⟨a, len, cap, rfl⟩ := okWide_slice Try.underlying22 hv
  obtain ⟨fuel, hf⟩ := h
  rcases open_ints Try.underlying22 Try.underlying5 (by kernel_rfl) hf with ⟨hcs, _⟩ | ⟨x, l, c, zs, hcs, _, hl, hm, hz, _, hcell, hwz⟩
  · simp [Value.cells] at hcs
    obtain ⟨rfl, rfl, rfl⟩ := hcs
    exact ⟨_, _, _, rfl, Nat.zero_le _, .inl ⟨rfl, _, _, rfl⟩⟩
  · simp [Value.cells] at hcs
    obtain ⟨rfl, rfl, rfl⟩ := hcs
    refine ⟨_, _, _, rfl, Nat.le_trans hl hm, ?_⟩
    rcases Nat.eq_zero_or_pos len with rfl | hp
    · exact .inl ⟨rfl, _, _, rfl⟩
    · have hzl : zs.length = cap := by simpa using hz
      obtain ⟨b, off, rfl, hc⟩ := ints_at hcell (by omega)
      have hb : b < W.heap.size := World.block_lt_of_cell? W _ (hc 0 (by omega))
      refine .inr ⟨b, off, cap, zs, rfl, hb, Nat.le_refl _, fun k hk => hc k (by omega), fun k => ?_⟩
      rw [List.getD_eq_getElem?_getD]
      cases hg : zs[k]? with
      | none => simp
      | some z =>
        have hw := hwz z (List.mem_of_getElem? hg)
        have := bounds_u8 hw
        simpa using this

end Go.Proofs.Ytnmaljieaflnmaa

/-
  The draws: odd numbers, and plans.
-/
namespace Go.Proofs.Ytnmaljieaflnmaa
open Go.RowKit Go.Joins
set_option linter.unusedVariables false

set_option maxHeartbeats 400000 in
theorem l1Odd_any {B g len : Nat} {sl : Value} {w : World} (hC : CurAt w B g sl len) :
    Calls Try.prog 88 #[.pointer (some ⟨g, 0, none⟩)] w (Drawn B g sl len (-9223372036854775808) 9223372036854775807 w) := by
  have hlt := hC.lt
  go_enter Try.func88, Try.ntmps88
  go_wp2_with fail
  go_at_call 43; refine (l1Below_any _ (by omega) (by omega) (hC.alloc _)).mono ?_; rintro e w1 ⟨x, hx0, hx1, rfl, hC1, hg1⟩
  have hb : w1.heap[w.heap.size]? = _ := (hg1.block w.heap.size (by simp) (by simp; omega)).trans (heap_alloc_new w _)
  have c := fun i => cell_of_block hb i
  clear hb
  have hx : x = 0 ∨ x = 1 ∨ x = 2 ∨ x = 3 ∨ x = 4 ∨ x = 5 ∨ x = 6 ∨ x = 7 ∨ x = 8 ∨ x = 9 := by omega
  have hgg := g_trans (World.grownBy_alloc w _ (some g)) hg1
  clear hg1 hx0 hx1
  rcases hx with rfl | rfl | rfl | rfl | rfl | rfl | rfl | rfl | rfl | rfl
  · have k : w1.cell? ⟨w.heap.size, 0, none⟩ = some (.int .i64 (-1)) := c 0
    clear c
    go_wp2
    go_ret
    exact ⟨_, by decide, by decide, rfl, hC1, hgg⟩
  · have k : w1.cell? ⟨w.heap.size, 1, none⟩ = some (.int .i64 0) := c 1
    clear c
    go_wp2
    go_ret
    exact ⟨_, by decide, by decide, rfl, hC1, hgg⟩
  · have k : w1.cell? ⟨w.heap.size, 2, none⟩ = some (.int .i64 1) := c 2
    clear c
    go_wp2
    go_ret
    exact ⟨_, by decide, by decide, rfl, hC1, hgg⟩
  · have k : w1.cell? ⟨w.heap.size, 3, none⟩ = some (.int .i64 2147483648) := c 3
    clear c
    go_wp2
    go_ret
    exact ⟨_, by decide, by decide, rfl, hC1, hgg⟩
  · have k : w1.cell? ⟨w.heap.size, 4, none⟩ = some (.int .i64 (-2147483648)) := c 4
    clear c
    go_wp2
    go_ret
    exact ⟨_, by decide, by decide, rfl, hC1, hgg⟩
  · have k : w1.cell? ⟨w.heap.size, 5, none⟩ = some (.int .i64 1099511627776) := c 5
    clear c
    go_wp2
    go_ret
    exact ⟨_, by decide, by decide, rfl, hC1, hgg⟩
  · have k : w1.cell? ⟨w.heap.size, 6, none⟩ = some (.int .i64 4611686018427387904) := c 6
    clear c
    go_wp2
    go_ret
    exact ⟨_, by decide, by decide, rfl, hC1, hgg⟩
  · have k : w1.cell? ⟨w.heap.size, 7, none⟩ = some (.int .i64 (-4611686018427387904)) := c 7
    clear c
    go_wp2
    go_ret
    exact ⟨_, by decide, by decide, rfl, hC1, hgg⟩
  · have k : w1.cell? ⟨w.heap.size, 8, none⟩ = some (.int .i64 9223372036854775807) := c 8
    clear c
    go_wp2
    go_ret
    exact ⟨_, by decide, by decide, rfl, hC1, hgg⟩
  · have k : w1.cell? ⟨w.heap.size, 9, none⟩ = some (.int .i64 (-9223372036854775808)) := c 9
    clear c
    go_wp2
    go_ret
    exact ⟨_, by decide, by decide, rfl, hC1, hgg⟩

set_option maxHeartbeats 400000 in
theorem l1Num_any {B g len : Nat} {sl : Value} {w : World} (most : Int) (hm : 1 ≤ most) (hm2 : most ≤ 1099511627776) (hC : CurAt w B g sl len) :
    Calls Try.prog 46 #[.pointer (some ⟨g, 0, none⟩), .int .i64 most] w (Drawn B g sl len (-9223372036854775808) 9223372036854775807 w) := by
  have hlt := hC.lt
  go_enter Try.func46, Try.ntmps46
  go_wp2_with fail
  go_at_call 42; refine (l1Once_any _ (by omega) (by omega) hC).mono ?_; rintro e w1 ⟨q, rfl, hC1, hg1⟩
  cases q
  · go_wp2_with fail
    go_at_call 42; refine (l1Once_any _ (by omega) (by omega) hC1).mono ?_; rintro e w2 ⟨q, rfl, hC2, hg2⟩
    have hgg := g_trans hg1 hg2
    clear hg1 hg2
    cases q
    · go_wp2_with fail
      go_at_call 43; refine (l1Below_any _ (by omega) (by omega) hC2).mono ?_; rintro e w3 ⟨x, hx0, hx1, rfl, hC3, hg3⟩
      go_wp2
      go_ret
      exact ⟨_, by omega, by omega, rfl, hC3, g_trans hgg hg3⟩
    · have hmin : 1 ≤ minI most 4 ∧ minI most 4 ≤ 4 := by unfold minI; split <;> omega
      obtain ⟨m0, m1⟩ := hmin
      go_wp2_with fail
      go_at_call 58; refine (l1Min_any _ _ _).mono ?_; rintro e w' ⟨rfl, rfl⟩
      go_wp2_with fail
      go_at_call 43; refine (l1Below_any _ (by omega) (by omega) hC2).mono ?_; rintro e w3 ⟨x, hx0, hx1, rfl, hC3, hg3⟩
      go_wp2
      go_ret
      exact ⟨_, by omega, by omega, rfl, hC3, g_trans hgg hg3⟩
  · go_wp2_with fail
    go_at_call 88; refine (l1Odd_any hC1).mono ?_; rintro e w2 ⟨y, hy0, hy1, rfl, hC2, hg2⟩
    have hgg := g_trans hg1 hg2
    clear hg1 hg2
    have hlt2 := hC2.lt
    go_wp2_with fail
    go_at_call 43; refine (l1Below_any _ (by omega) (by omega) (hC2.alloc _)).mono ?_; rintro e w3 ⟨x, hx0, hx1, rfl, hC3, hg3⟩
    have hb : w3.heap[w2.heap.size]? = _ := (hg3.block w2.heap.size (by simp) (by simp; omega)).trans (heap_alloc_new w2 _)
    have c := fun i => cell_of_block hb i
    clear hb
    have hx : x = 0 ∨ x = 1 ∨ x = 2 ∨ x = 3 := by omega
    have hg4 := g_trans hgg (g_trans (World.grownBy_alloc w2 _ (some g)) hg3)
    clear hg3 hgg hx0 hx1
    rcases hx with rfl | rfl | rfl | rfl
    · have k : w3.cell? ⟨w2.heap.size, 0, none⟩ = some (.int .i64 (-1)) := c 0
      clear c
      go_wp2
      go_ret
      exact ⟨_, by decide, by decide, rfl, hC3, hg4⟩
    · have k : w3.cell? ⟨w2.heap.size, 1, none⟩ = some (.int .i64 most) := c 1
      clear c
      go_wp2
      go_ret
      exact ⟨_, by omega, by omega, rfl, hC3, hg4⟩
    · have k : w3.cell? ⟨w2.heap.size, 2, none⟩ = some (.int .i64 (most + 1)) := c 2
      clear c
      go_wp2
      go_ret
      exact ⟨_, by omega, by omega, rfl, hC3, hg4⟩
    · have k : w3.cell? ⟨w2.heap.size, 3, none⟩ = some (.int .i64 y) := c 3
      clear c
      go_wp2
      go_ret
      exact ⟨_, hy0, hy1, rfl, hC3, hg4⟩

/-- a call that draws a plan -/
def DrawnP (R : Int → Int → Int → Prop) (B g : Nat) (sl : Value) (len : Nat) (w : World) (e : Ending) (w' : World) : Prop :=
  ∃ a b c : Int, R a b c ∧ e = .returned (.agg #[.int .i64 a, .int .i64 b, .int .i64 c]) ∧ CurAt w' B g sl len ∧ w.grownBy w' (some g)
set_option maxHeartbeats 400000 in
theorem l1DrawPlan_any {B g len : Nat} {sl : Value} {w : World} (hC : CurAt w B g sl len) :
    Calls Try.prog 40 #[.pointer (some ⟨g, 0, none⟩)] w (DrawnP (fun a b c => (1 ≤ a ∧ a ≤ 3) ∧ (1 ≤ b ∧ b ≤ 4) ∧ 2 ≤ c ∧ c ≤ 9) B g sl len w) := by
  have hlt := hC.lt
  go_enter Try.func40, Try.ntmps40
  go_wp2_with fail
  go_at_call 43; refine (l1Below_any _ (by omega) (by omega) (hC.alloc _)).mono ?_; rintro e w1 ⟨x, hx0, hx1, rfl, hC1, hg1⟩
  go_wp2_with fail
  go_at_call 43; refine (l1Below_any _ (by omega) (by omega) hC1).mono ?_; rintro e w2 ⟨y, hy0, hy1, rfl, hC2, hg2⟩
  go_wp2_with fail
  go_at_call 43; refine (l1Below_any _ (by omega) (by omega) hC2).mono ?_; rintro e w3 ⟨z, hz0, hz1, rfl, hC3, hg3⟩
  have hgg := g_trans (g_trans hg1 hg2) hg3
  clear hg1 hg2 hg3
  have hb : w3.heap[w.heap.size]? = _ := (hgg.block w.heap.size (by simp) (by simp; omega)).trans (heap_alloc_new w _)
  have c0 : w3.cell? ⟨w.heap.size, 0, none⟩ = some (.int .i64 0) := cell_of_block hb 0
  have c1 : w3.cell? ⟨w.heap.size, 1, none⟩ = some (.int .i64 0) := cell_of_block hb 1
  have c2 : w3.cell? ⟨w.heap.size, 2, none⟩ = some (.int .i64 0) := cell_of_block hb 2
  have f0 := unfrozen_of_block hb 0
  have f1 := unfrozen_of_block hb 1
  have f2 := unfrozen_of_block hb 2
  have hg4 := g_trans (World.grownBy_alloc w _ (some g)) hgg
  clear hb hgg
  have hB := hC.base
  go_wp2
  exact bodyPost_ret (v := .agg #[.int .i64 (1 + x), .int .i64 (1 + y), .int .i64 (2 + z)]) (by simp [results, Try.results40, go_sem, c0, c1, c2]) rfl
    ⟨_, _, _, ⟨by omega, by omega, by omega⟩, rfl, ((hC3.set (by omega) (by omega) _ _).set (by omega) (by omega) _ _).set (by omega) (by omega) _ _, g_new (g_new (g_new hg4 (Nat.le_refl _) _ _) (Nat.le_refl _) _ _) (Nat.le_refl _) _ _⟩

set_option maxHeartbeats 400000 in
theorem l1DrawAny_any {B g len : Nat} {sl : Value} {w : World} (hC : CurAt w B g sl len) :
    Calls Try.prog 47 #[.pointer (some ⟨g, 0, none⟩)] w (DrawnP (fun _ _ _ => True) B g sl len w) := by
  have hlt := hC.lt
  have hB := hC.base
  go_enter Try.func47, Try.ntmps47
  go_wp2_with fail
  go_at_call 40; refine (l1DrawPlan_any (hC.alloc _)).mono ?_; rintro e w1 ⟨a, b, c, _, rfl, hC1, hg1⟩
  have hR := g_block hg1 (heap_alloc_new w _) (by omega)
  have hg2 := g_trans (World.grownBy_alloc w _ (some g)) hg1
  clear hg1
  have hs : w.heap.size < w1.heap.size := lt_of_block hR
  have hne : w.heap.size ≠ w1.heap.size := by omega
  go_wp2_with fail
  go_at_call 42; refine (l1Once_any _ (by omega) (by omega) (hC1.alloc _)).mono ?_; rintro e w2 ⟨q, rfl, hC2, hg3⟩
  have hlt1 := hC1.lt
  replace hR := g_block hg3 (alloc_block _ hR) (by omega)
  have hV := g_block hg3 (heap_alloc_new w1 _) (by omega)
  have hg4 := g_trans hg2 (g_trans (World.grownBy_alloc w1 _ (some g)) hg3)
  clear hg3 hg2
  cases q
  · obtain ⟨r0, r1, r2, p0, p1, p2⟩ := three hR
    obtain ⟨v0, v1, v2, q0, q1, q2⟩ := three hV
    clear hR hV
    go_wp2
    exact bodyPost_ret (v := .agg #[.int .i64 a, .int .i64 b, .int .i64 c]) (by simp [results, Try.results47, go_sem, r0, r1, r2]) rfl ⟨_, _, _, trivial, rfl, (((hC2.set (by omega) (by omega) _ _).set (by omega) (by omega) _ _).set (by omega) (by omega) _ _), (g_new (g_new (g_new hg4 (by omega) _ _) (by omega) _ _) (by omega) _ _)⟩
  · go_wp2_with fail
    go_at_call 43; refine (l1Below_any _ (by omega) (by omega) hC2).mono ?_; rintro e w3 ⟨x, hx0, hx1, rfl, hC3, hg5⟩
    replace hR := g_block hg5 hR (by omega)
    replace hV := g_block hg5 hV (by omega)
    replace hg4 := g_trans hg4 hg5
    clear hg5
    have hx : x = 0 ∨ x = 1 ∨ x = 2 := by omega
    clear hx0 hx1
    rcases hx with rfl | rfl | rfl
    · go_wp2_with fail
      go_at_call 46; refine (l1Num_any _ (by omega) (by omega) hC3).mono ?_; rintro e w4 ⟨y, _, _, rfl, hC4, hg5⟩
      replace hR := g_block hg5 hR (by omega)
      replace hV := g_block hg5 hV (by omega)
      replace hg4 := g_trans hg4 hg5
      clear hg5
      obtain ⟨r0, r1, r2, p0, p1, p2⟩ := three hR
      obtain ⟨v0, v1, v2, q0, q1, q2⟩ := three hV
      clear hR hV
      go_wp2
      exact bodyPost_ret (v := .agg #[.int .i64 y, .int .i64 b, .int .i64 c]) (by simp [results, Try.results47, go_sem, r0, r1, r2]) rfl ⟨_, _, _, trivial, rfl, ((((hC4.set (by omega) (by omega) _ _).set (by omega) (by omega) _ _).set (by omega) (by omega) _ _).set (by omega) (by omega) _ _), (g_new (g_new (g_new (g_new hg4 (by omega) _ _) (by omega) _ _) (by omega) _ _) (by omega) _ _)⟩
    · go_wp2_with fail
      go_at_call 46; refine (l1Num_any _ (by omega) (by omega) hC3).mono ?_; rintro e w4 ⟨y, _, _, rfl, hC4, hg5⟩
      replace hR := g_block hg5 hR (by omega)
      replace hV := g_block hg5 hV (by omega)
      replace hg4 := g_trans hg4 hg5
      clear hg5
      obtain ⟨r0, r1, r2, p0, p1, p2⟩ := three hR
      obtain ⟨v0, v1, v2, q0, q1, q2⟩ := three hV
      clear hR hV
      go_wp2
      exact bodyPost_ret (v := .agg #[.int .i64 a, .int .i64 y, .int .i64 c]) (by simp [results, Try.results47, go_sem, r0, r1, r2]) rfl ⟨_, _, _, trivial, rfl, ((((hC4.set (by omega) (by omega) _ _).set (by omega) (by omega) _ _).set (by omega) (by omega) _ _).set (by omega) (by omega) _ _), (g_new (g_new (g_new (g_new hg4 (by omega) _ _) (by omega) _ _) (by omega) _ _) (by omega) _ _)⟩
    · go_wp2_with fail
      go_at_call 46; refine (l1Num_any _ (by omega) (by omega) hC3).mono ?_; rintro e w4 ⟨y, _, _, rfl, hC4, hg5⟩
      replace hR := g_block hg5 hR (by omega)
      replace hV := g_block hg5 hV (by omega)
      replace hg4 := g_trans hg4 hg5
      clear hg5
      obtain ⟨r0, r1, r2, p0, p1, p2⟩ := three hR
      obtain ⟨v0, v1, v2, q0, q1, q2⟩ := three hV
      clear hR hV
      go_wp2
      exact bodyPost_ret (v := .agg #[.int .i64 a, .int .i64 b, .int .i64 y]) (by simp [results, Try.results47, go_sem, r0, r1, r2]) rfl ⟨_, _, _, trivial, rfl, ((((hC4.set (by omega) (by omega) _ _).set (by omega) (by omega) _ _).set (by omega) (by omega) _ _).set (by omega) (by omega) _ _), (g_new (g_new (g_new (g_new hg4 (by omega) _ _) (by omega) _ _) (by omega) _ _) (by omega) _ _)⟩

end Go.Proofs.Ytnmaljieaflnmaa

/-
  The draws of the chapter on timers.
-/
namespace Go.Proofs.Ytnmaljieaflnmaa
open Go.RowKit Go.Joins
set_option linter.unusedVariables false

abbrev tmO (t : Tm) (ty : TypeId) : Obj := .cells #[.int .i64 t.st, .int .i64 t.wh, .int .i64 t.nx, .int .i64 t.pe, .int .i64 t.pl, .int .i64 t.ge, .int .i64 t.ki, .int .i64 t.ma] ty
/-- a timer's eight cells -/
theorem eight_cells {w : World} {b : Nat} {t : Tm} {ty : TypeId} (h : w.heap[b]? = some (.cells #[.int .i64 t.st, .int .i64 t.wh, .int .i64 t.nx, .int .i64 t.pe, .int .i64 t.pl, .int .i64 t.ge, .int .i64 t.ki, .int .i64 t.ma] ty (0, 0))) :
    w.cell? ⟨b, 0, none⟩ = some (.int .i64 t.st) ∧ w.cell? ⟨b, 1, none⟩ = some (.int .i64 t.wh) ∧ w.cell? ⟨b, 2, none⟩ = some (.int .i64 t.nx) ∧ w.cell? ⟨b, 3, none⟩ = some (.int .i64 t.pe) ∧ w.cell? ⟨b, 4, none⟩ = some (.int .i64 t.pl) ∧ w.cell? ⟨b, 5, none⟩ = some (.int .i64 t.ge) ∧ w.cell? ⟨b, 6, none⟩ = some (.int .i64 t.ki) ∧ w.cell? ⟨b, 7, none⟩ = some (.int .i64 t.ma) :=
  ⟨cell_of_block h 0, cell_of_block h 1, cell_of_block h 2, cell_of_block h 3, cell_of_block h 4, cell_of_block h 5, cell_of_block h 6, cell_of_block h 7⟩
theorem eight_free {w : World} {b : Nat} {cs : Array Value} {ty : TypeId} (h : w.heap[b]? = some (.cells cs ty (0, 0))) :
    w.frozen? ⟨b, 0, none⟩ = false ∧ w.frozen? ⟨b, 1, none⟩ = false ∧ w.frozen? ⟨b, 2, none⟩ = false ∧ w.frozen? ⟨b, 3, none⟩ = false ∧ w.frozen? ⟨b, 4, none⟩ = false ∧ w.frozen? ⟨b, 5, none⟩ = false ∧ w.frozen? ⟨b, 6, none⟩ = false ∧ w.frozen? ⟨b, 7, none⟩ = false :=
  ⟨unfrozen_of_block h 0, unfrozen_of_block h 1, unfrozen_of_block h 2, unfrozen_of_block h 3, unfrozen_of_block h 4, unfrozen_of_block h 5, unfrozen_of_block h 6, unfrozen_of_block h 7⟩
abbrev set8 (w : World) (b : Nat) (t : Tm) : World := ((((((((w.setCell ⟨b, 0, none⟩ (.int .i64 t.st)).setCell ⟨b, 1, none⟩ (.int .i64 t.wh)).setCell ⟨b, 2, none⟩ (.int .i64 t.nx)).setCell ⟨b, 3, none⟩ (.int .i64 t.pe)).setCell ⟨b, 4, none⟩ (.int .i64 t.pl)).setCell ⟨b, 5, none⟩ (.int .i64 t.ge)).setCell ⟨b, 6, none⟩ (.int .i64 t.ki)).setCell ⟨b, 7, none⟩ (.int .i64 t.ma))
theorem CurAt.set8 {w : World} {B g len b : Nat} {sl : Value} (h : CurAt w B g sl len) (hb : B ≤ b) (hn : b ≠ g) (t : Tm) : CurAt (set8 w b t) B g sl len :=
  ((((((((h.set hb hn _ _).set hb hn _ _).set hb hn _ _).set hb hn _ _).set hb hn _ _).set hb hn _ _).set hb hn _ _).set hb hn _ _)
theorem g_new8 {a w : World} {g b : Nat} (h : a.grownBy w (some g)) (hb : a.heap.size ≤ b) (t : Tm) : a.grownBy (set8 w b t) (some g) :=
  g_new (g_new (g_new (g_new (g_new (g_new (g_new (g_new h hb _ _) hb _ _) hb _ _) hb _ _) hb _ _) hb _ _) hb _ _) hb _ _

/-- a call that draws a timer -/
def DrawnT (B g : Nat) (sl : Value) (len : Nat) (w : World) (e : Ending) (w' : World) : Prop :=
  ∃ t : Tm, e = .returned (tmV t) ∧ CurAt w' B g sl len ∧ w.grownBy w' (some g)

end Go.Proofs.Ytnmaljieaflnmaa

/-
  Timers, in the program: the place that a status wants; is a timer right?
-/
namespace Go.Proofs.Ytnmaljieaflnmaa
open Go.RowKit Go.Joins
set_option linter.unusedVariables false

set_option maxRecDepth 100000 in
set_option maxHeartbeats 4000000 in
theorem place_eight (a b c st wh nx pe pl ge ki ma : Int) (w : World) :
    Calls Try.prog 136 #[.agg #[.int .i64 st, .int .i64 wh, .int .i64 nx, .int .i64 pe, .int .i64 pl, .int .i64 ge, .int .i64 ki, .int .i64 ma], .agg #[.int .i64 a, .int .i64 b, .int .i64 c]] w fun e w' => e = .returned (.bool (putB a b c ⟨st, wh, nx, pe, pl, ge, ki, ma⟩)) ∧ Below w.heap.size w w' := by
  have K := ((Below.refl w.heap.size w).alloc (Nat.le_refl _) (.cells #[.int .i64 st, .int .i64 wh, .int .i64 nx, .int .i64 pe, .int .i64 pl, .int .i64 ge, .int .i64 ki, .int .i64 ma] 96)).alloc (by simp) (.cells #[.int .i64 a, .int .i64 b, .int .i64 c] 25)
  have p0 := alloc_block (.cells #[.int .i64 a, .int .i64 b, .int .i64 c] 25) (heap_alloc_new w (.cells #[.int .i64 st, .int .i64 wh, .int .i64 nx, .int .i64 pe, .int .i64 pl, .int .i64 ge, .int .i64 ki, .int .i64 ma] 96))
  have p1 := heap_alloc_new (w.alloc (.cells #[.int .i64 st, .int .i64 wh, .int .i64 nx, .int .i64 pe, .int .i64 pl, .int .i64 ge, .int .i64 ki, .int .i64 ma] 96)) (.cells #[.int .i64 a, .int .i64 b, .int .i64 c] 25)
  rw [show (w.alloc (.cells #[.int .i64 st, .int .i64 wh, .int .i64 nx, .int .i64 pe, .int .i64 pl, .int .i64 ge, .int .i64 ki, .int .i64 ma] 96)).heap.size = w.heap.size + 1 by simp] at p1
  have l0 := lt_of_block p0
  have l1 := lt_of_block p1
  have kk := (Below.refl ((w.alloc (.cells #[.int .i64 st, .int .i64 wh, .int .i64 nx, .int .i64 pe, .int .i64 pl, .int .i64 ge, .int .i64 ki, .int .i64 ma] 96)).alloc (.cells #[.int .i64 a, .int .i64 b, .int .i64 c] 25)).heap.size ((w.alloc (.cells #[.int .i64 st, .int .i64 wh, .int .i64 nx, .int .i64 pe, .int .i64 pl, .int .i64 ge, .int .i64 ki, .int .i64 ma] 96)).alloc (.cells #[.int .i64 a, .int .i64 b, .int .i64 c] 25))).drew
  by_cases h2 : st = 2
  · subst h2
    cases hp : procB a b c pl
    · have HP := Lib.hid hp
      by_cases h1 : pl = -1
      · subst h1
        rw [show putB a b c ⟨2, wh, nx, pe, -1, ge, ki, ma⟩ = true by simp [putB]]
        clear hp
        go_enter Try.func136, Try.ntmps136
        go_wp2_with fail
        go_region_held3 (fun w' => w'.cell? ⟨w.heap.size, 4, none⟩ = some (.int .i64 (-1)) ∧ w'.cell? ⟨w.heap.size + 1, 0, none⟩ = some (.int .i64 a) ∧ w'.cell? ⟨w.heap.size + 1, 1, none⟩ = some (.int .i64 b) ∧ w'.cell? ⟨w.heap.size + 1, 2, none⟩ = some (.int .i64 c))
          (exact ⟨(kk.cell (p := ⟨w.heap.size, 4, none⟩) l0).trans (cell_of_block p0 4), (kk.cell (p := ⟨w.heap.size + 1, 0, none⟩) l1).trans (cell_of_block p1 0), (kk.cell (p := ⟨w.heap.size + 1, 1, none⟩) l1).trans (cell_of_block p1 1), (kk.cell (p := ⟨w.heap.size + 1, 2, none⟩) l1).trans (cell_of_block p1 2)⟩)
          (first | (go_at_call 141; refine (hasProc_any _ _ _ _ _).mono ?_; rw [HP.out]; rintro e w1 ⟨rfl, hb⟩; replace kk := kk.trans (hb.mono kk.size); clear hb))
        all_goals
          go_wp2_with (first
            | (go_at_call 142; refine (stInHeap_any _ _).mono ?_; rintro e w' ⟨rfl, rfl⟩)
            | (go_at_call 143; refine (known_any _ _).mono ?_; rintro e w' ⟨rfl, rfl⟩))
          go_ret
          exact ⟨ret_bool' (by simp), K.trans (kk.mono K.size)⟩
      · have b1 : (pl == -1) = false := by simpa using h1
        rw [show putB a b c ⟨2, wh, nx, pe, pl, ge, ki, ma⟩ = false by simp [putB, hp, h1]]
        clear hp h1
        go_enter Try.func136, Try.ntmps136
        go_wp2_with fail
        go_region_held3 (fun w' => w'.cell? ⟨w.heap.size, 4, none⟩ = some (.int .i64 pl) ∧ w'.cell? ⟨w.heap.size + 1, 0, none⟩ = some (.int .i64 a) ∧ w'.cell? ⟨w.heap.size + 1, 1, none⟩ = some (.int .i64 b) ∧ w'.cell? ⟨w.heap.size + 1, 2, none⟩ = some (.int .i64 c))
          (exact ⟨(kk.cell (p := ⟨w.heap.size, 4, none⟩) l0).trans (cell_of_block p0 4), (kk.cell (p := ⟨w.heap.size + 1, 0, none⟩) l1).trans (cell_of_block p1 0), (kk.cell (p := ⟨w.heap.size + 1, 1, none⟩) l1).trans (cell_of_block p1 1), (kk.cell (p := ⟨w.heap.size + 1, 2, none⟩) l1).trans (cell_of_block p1 2)⟩)
          (first | (go_at_call 141; refine (hasProc_any _ _ _ _ _).mono ?_; rw [HP.out]; rintro e w1 ⟨rfl, hb⟩; replace kk := kk.trans (hb.mono kk.size); clear hb))
        all_goals
          go_wp2_with (first
            | (go_at_call 142; refine (stInHeap_any _ _).mono ?_; rintro e w' ⟨rfl, rfl⟩)
            | (go_at_call 143; refine (known_any _ _).mono ?_; rintro e w' ⟨rfl, rfl⟩))
          go_ret
          exact ⟨ret_bool' (by simp), K.trans (kk.mono K.size)⟩
    · have HP := Lib.hid hp
      rw [show putB a b c ⟨2, wh, nx, pe, pl, ge, ki, ma⟩ = true by simp [putB, hp]]
      clear hp
      go_enter Try.func136, Try.ntmps136
      go_wp2_with fail
      go_region_held3 (fun w' => w'.cell? ⟨w.heap.size, 4, none⟩ = some (.int .i64 pl) ∧ w'.cell? ⟨w.heap.size + 1, 0, none⟩ = some (.int .i64 a) ∧ w'.cell? ⟨w.heap.size + 1, 1, none⟩ = some (.int .i64 b) ∧ w'.cell? ⟨w.heap.size + 1, 2, none⟩ = some (.int .i64 c))
        (exact ⟨(kk.cell (p := ⟨w.heap.size, 4, none⟩) l0).trans (cell_of_block p0 4), (kk.cell (p := ⟨w.heap.size + 1, 0, none⟩) l1).trans (cell_of_block p1 0), (kk.cell (p := ⟨w.heap.size + 1, 1, none⟩) l1).trans (cell_of_block p1 1), (kk.cell (p := ⟨w.heap.size + 1, 2, none⟩) l1).trans (cell_of_block p1 2)⟩)
        (first | (go_at_call 141; refine (hasProc_any _ _ _ _ _).mono ?_; rw [HP.out]; rintro e w1 ⟨rfl, hb⟩; replace kk := kk.trans (hb.mono kk.size); clear hb))
      all_goals
        go_wp2_with (first
          | (go_at_call 142; refine (stInHeap_any _ _).mono ?_; rintro e w' ⟨rfl, rfl⟩)
          | (go_at_call 143; refine (known_any _ _).mono ?_; rintro e w' ⟨rfl, rfl⟩))
        go_ret
        exact ⟨ret_bool' (by simp), K.trans (kk.mono K.size)⟩
  have b2 : (st == 2) = false := by simpa using h2
  cases hi : inHeapB st
  · cases hk : inB st 0 7
    · rw [show putB a b c ⟨st, wh, nx, pe, pl, ge, ki, ma⟩ = false by simp [putB, h2, hi, hk]]
      clear h2
      go_enter Try.func136, Try.ntmps136
      go_wp2_with fail
      go_region_held3 (fun w' => w'.cell? ⟨w.heap.size, 4, none⟩ = some (.int .i64 pl) ∧ w'.cell? ⟨w.heap.size + 1, 0, none⟩ = some (.int .i64 a) ∧ w'.cell? ⟨w.heap.size + 1, 1, none⟩ = some (.int .i64 b) ∧ w'.cell? ⟨w.heap.size + 1, 2, none⟩ = some (.int .i64 c))
        (exact ⟨(kk.cell (p := ⟨w.heap.size, 4, none⟩) l0).trans (cell_of_block p0 4), (kk.cell (p := ⟨w.heap.size + 1, 0, none⟩) l1).trans (cell_of_block p1 0), (kk.cell (p := ⟨w.heap.size + 1, 1, none⟩) l1).trans (cell_of_block p1 1), (kk.cell (p := ⟨w.heap.size + 1, 2, none⟩) l1).trans (cell_of_block p1 2)⟩)
        (first | (go_at_call 141; refine (hasProc_any _ _ _ _ _).mono ?_; rintro e w1 ⟨rfl, hb⟩; replace kk := kk.trans (hb.mono kk.size); clear hb))
      all_goals
        go_wp2_with (first
          | (go_at_call 142; refine (stInHeap_any _ _).mono ?_; rintro e w' ⟨rfl, rfl⟩)
          | (go_at_call 143; refine (known_any _ _).mono ?_; rintro e w' ⟨rfl, rfl⟩))
        go_ret
        exact ⟨ret_bool' (by simp), K.trans (kk.mono K.size)⟩
    · by_cases h1 : pl = -1
      · subst h1
        rw [show putB a b c ⟨st, wh, nx, pe, -1, ge, ki, ma⟩ = true by simp [putB, h2, hi, hk]]
        clear h2
        go_enter Try.func136, Try.ntmps136
        go_wp2_with fail
        go_region_held3 (fun w' => w'.cell? ⟨w.heap.size, 4, none⟩ = some (.int .i64 (-1)) ∧ w'.cell? ⟨w.heap.size + 1, 0, none⟩ = some (.int .i64 a) ∧ w'.cell? ⟨w.heap.size + 1, 1, none⟩ = some (.int .i64 b) ∧ w'.cell? ⟨w.heap.size + 1, 2, none⟩ = some (.int .i64 c))
          (exact ⟨(kk.cell (p := ⟨w.heap.size, 4, none⟩) l0).trans (cell_of_block p0 4), (kk.cell (p := ⟨w.heap.size + 1, 0, none⟩) l1).trans (cell_of_block p1 0), (kk.cell (p := ⟨w.heap.size + 1, 1, none⟩) l1).trans (cell_of_block p1 1), (kk.cell (p := ⟨w.heap.size + 1, 2, none⟩) l1).trans (cell_of_block p1 2)⟩)
          (first | (go_at_call 141; refine (hasProc_any _ _ _ _ _).mono ?_; rintro e w1 ⟨rfl, hb⟩; replace kk := kk.trans (hb.mono kk.size); clear hb))
        all_goals
          go_wp2_with (first
            | (go_at_call 142; refine (stInHeap_any _ _).mono ?_; rintro e w' ⟨rfl, rfl⟩)
            | (go_at_call 143; refine (known_any _ _).mono ?_; rintro e w' ⟨rfl, rfl⟩))
          go_ret
          exact ⟨ret_bool' (by simp), K.trans (kk.mono K.size)⟩
      · have b1 : (pl == -1) = false := by simpa using h1
        rw [show putB a b c ⟨st, wh, nx, pe, pl, ge, ki, ma⟩ = false by simp [putB, h2, hi, h1]]
        clear h2 h1
        go_enter Try.func136, Try.ntmps136
        go_wp2_with fail
        go_region_held3 (fun w' => w'.cell? ⟨w.heap.size, 4, none⟩ = some (.int .i64 pl) ∧ w'.cell? ⟨w.heap.size + 1, 0, none⟩ = some (.int .i64 a) ∧ w'.cell? ⟨w.heap.size + 1, 1, none⟩ = some (.int .i64 b) ∧ w'.cell? ⟨w.heap.size + 1, 2, none⟩ = some (.int .i64 c))
          (exact ⟨(kk.cell (p := ⟨w.heap.size, 4, none⟩) l0).trans (cell_of_block p0 4), (kk.cell (p := ⟨w.heap.size + 1, 0, none⟩) l1).trans (cell_of_block p1 0), (kk.cell (p := ⟨w.heap.size + 1, 1, none⟩) l1).trans (cell_of_block p1 1), (kk.cell (p := ⟨w.heap.size + 1, 2, none⟩) l1).trans (cell_of_block p1 2)⟩)
          (first | (go_at_call 141; refine (hasProc_any _ _ _ _ _).mono ?_; rintro e w1 ⟨rfl, hb⟩; replace kk := kk.trans (hb.mono kk.size); clear hb))
        all_goals
          go_wp2_with (first
            | (go_at_call 142; refine (stInHeap_any _ _).mono ?_; rintro e w' ⟨rfl, rfl⟩)
            | (go_at_call 143; refine (known_any _ _).mono ?_; rintro e w' ⟨rfl, rfl⟩))
          go_ret
          exact ⟨ret_bool' (by simp), K.trans (kk.mono K.size)⟩
  · rw [show putB a b c ⟨st, wh, nx, pe, pl, ge, ki, ma⟩ = procB a b c pl by simp [putB, h2, hi]]
    clear h2
    go_enter Try.func136, Try.ntmps136
    go_wp2_with fail
    go_region_held3 (fun w' => w'.cell? ⟨w.heap.size, 4, none⟩ = some (.int .i64 pl) ∧ w'.cell? ⟨w.heap.size + 1, 0, none⟩ = some (.int .i64 a) ∧ w'.cell? ⟨w.heap.size + 1, 1, none⟩ = some (.int .i64 b) ∧ w'.cell? ⟨w.heap.size + 1, 2, none⟩ = some (.int .i64 c))
      (exact ⟨(kk.cell (p := ⟨w.heap.size, 4, none⟩) l0).trans (cell_of_block p0 4), (kk.cell (p := ⟨w.heap.size + 1, 0, none⟩) l1).trans (cell_of_block p1 0), (kk.cell (p := ⟨w.heap.size + 1, 1, none⟩) l1).trans (cell_of_block p1 1), (kk.cell (p := ⟨w.heap.size + 1, 2, none⟩) l1).trans (cell_of_block p1 2)⟩)
      (first | (go_at_call 141; refine (hasProc_any _ _ _ _ _).mono ?_; rintro e w1 ⟨rfl, hb⟩; replace kk := kk.trans (hb.mono kk.size); clear hb))
    all_goals
      go_wp2_with (first
        | (go_at_call 142; refine (stInHeap_any _ _).mono ?_; rintro e w' ⟨rfl, rfl⟩)
        | (go_at_call 143; refine (known_any _ _).mono ?_; rintro e w' ⟨rfl, rfl⟩))
      go_ret
      exact ⟨ret_bool' (by simp), K.trans (kk.mono K.size)⟩

theorem place_any (a b c : Int) (t : Tm) (w : World) :
    Calls Try.prog 136 #[tmV t, .agg #[.int .i64 a, .int .i64 b, .int .i64 c]] w fun e w' => e = .returned (.bool (putB a b c t)) ∧ Below w.heap.size w w' :=
  place_eight a b c t.st t.wh t.nx t.pe t.pl t.ge t.ki t.ma w

theorem timerB_eq (a b c : Int) (t : Tm) : timerB a b c t = (planB a b c && (numB t && (putB a b c t && nextB t))) := by
  have hp : (inB t.st 0 7 && placeB a b c t) = putB a b c t := by
    unfold placeB putB
    by_cases h2 : t.st = 2
    · simp [h2, inHeapB, inB, Bool.or_comm]
    · cases hi : inHeapB t.st
      · have b2 : (t.st == 2) = false := by simpa using h2
        simp [h2, b2]
      · have hk : inB t.st 0 7 = true := by
          simp only [inHeapB, Bool.or_eq_true, beq_iff_eq] at hi
          rw [inB_iff]; omega
        simp [h2, hk]
  rw [← hp]
  unfold timerB numB
  cases planB a b c <;> cases inB t.st 0 7 <;> simp <;> cases placeB a b c t <;> simp [Bool.and_assoc, Bool.and_comm]

set_option maxRecDepth 100000 in
set_option maxHeartbeats 4000000 in
theorem imTimerOk_any : AsksT 123 := by
  intro a b c t w
  rw [timerB_eq]
  have hPv := alloc_block (tmO t 96) (heap_alloc_new w (.cells #[.int .i64 a, .int .i64 b, .int .i64 c] 25))
  have hTv := heap_alloc_new (w.alloc (.cells #[.int .i64 a, .int .i64 b, .int .i64 c] 25)) (tmO t 96)
  rw [show (w.alloc (.cells #[.int .i64 a, .int .i64 b, .int .i64 c] 25)).heap.size = w.heap.size + 1 by simp] at hTv
  have kk := ((Below.refl w.heap.size w).alloc (Nat.le_refl _) (.cells #[.int .i64 a, .int .i64 b, .int .i64 c] 25)).alloc (by simp) (tmO t 96)
  cases h1 : planB a b c
  · have H1 := Lib.hid h1
    clear h1
    rw [Bool.false_and]
    go_enter Try.func123, Try.ntmps123
    go_wp2_with fail
    go_at_call 50; refine (right_any _ _ _ _).mono ?_; rw [H1.out]; rintro e w1 ⟨rfl, hb⟩
    replace hPv := b_block hb hPv (lt_of_block hPv); replace hTv := b_block hb hTv (lt_of_block hTv); replace kk := kk.trans (hb.mono kk.size); clear hb
    go_wp2
    go_ret
    exact ⟨rfl, kk⟩
  have H1 := Lib.hid h1
  clear h1
  cases h2 : numB t
  · have H2 := Lib.hid h2
    clear h2
    rw [Bool.false_and, Bool.true_and]
    go_enter Try.func123, Try.ntmps123
    go_wp2_with fail
    go_at_call 50; refine (right_any _ _ _ _).mono ?_; rw [H1.out]; rintro e w1 ⟨rfl, hb⟩
    replace hPv := b_block hb hPv (lt_of_block hPv); replace hTv := b_block hb hTv (lt_of_block hTv); replace kk := kk.trans (hb.mono kk.size); clear hb
    obtain ⟨t0, t1, t2, t3, t4, t5, t6, t7⟩ := eight_cells (t := t) hTv
    go_wp2_with fail
    go_at_call 135; refine (numbers_any _ _).mono ?_; rw [H2.out]; rintro e w2 ⟨rfl, hb⟩
    replace hPv := b_block hb hPv (lt_of_block hPv); replace hTv := b_block hb hTv (lt_of_block hTv); replace kk := kk.trans (hb.mono kk.size); clear hb t0 t1 t2 t3 t4 t5 t6 t7
    go_wp2
    go_ret
    exact ⟨rfl, kk⟩
  have H2 := Lib.hid h2
  clear h2
  cases h3 : putB a b c t
  · have H3 := Lib.hid h3
    clear h3
    rw [Bool.false_and, Bool.true_and, Bool.true_and]
    go_enter Try.func123, Try.ntmps123
    go_wp2_with fail
    go_at_call 50; refine (right_any _ _ _ _).mono ?_; rw [H1.out]; rintro e w1 ⟨rfl, hb⟩
    replace hPv := b_block hb hPv (lt_of_block hPv); replace hTv := b_block hb hTv (lt_of_block hTv); replace kk := kk.trans (hb.mono kk.size); clear hb
    obtain ⟨t0, t1, t2, t3, t4, t5, t6, t7⟩ := eight_cells (t := t) hTv
    go_wp2_with fail
    go_at_call 135; refine (numbers_any _ _).mono ?_; rw [H2.out]; rintro e w2 ⟨rfl, hb⟩
    replace hPv := b_block hb hPv (lt_of_block hPv); replace hTv := b_block hb hTv (lt_of_block hTv); replace kk := kk.trans (hb.mono kk.size); clear hb t0 t1 t2 t3 t4 t5 t6 t7
    obtain ⟨v0, v1, v2, _, _, _⟩ := three hPv
    obtain ⟨t0, t1, t2, t3, t4, t5, t6, t7⟩ := eight_cells (t := t) hTv
    go_wp2_with fail
    go_at_call 136; refine (place_any _ _ _ _ _).mono ?_; rw [H3.out]; rintro e w3 ⟨rfl, hb⟩
    replace hPv := b_block hb hPv (lt_of_block hPv); replace hTv := b_block hb hTv (lt_of_block hTv); replace kk := kk.trans (hb.mono kk.size); clear hb t0 t1 t2 t3 t4 t5 t6 t7 v0 v1 v2
    go_wp2
    go_ret
    exact ⟨rfl, kk⟩
  have H3 := Lib.hid h3
  clear h3
  rw [Bool.true_and, Bool.true_and, Bool.true_and]
  go_enter Try.func123, Try.ntmps123
  go_wp2_with fail
  go_at_call 50; refine (right_any _ _ _ _).mono ?_; rw [H1.out]; rintro e w1 ⟨rfl, hb⟩
  replace hPv := b_block hb hPv (lt_of_block hPv); replace hTv := b_block hb hTv (lt_of_block hTv); replace kk := kk.trans (hb.mono kk.size); clear hb
  obtain ⟨t0, t1, t2, t3, t4, t5, t6, t7⟩ := eight_cells (t := t) hTv
  go_wp2_with fail
  go_at_call 135; refine (numbers_any _ _).mono ?_; rw [H2.out]; rintro e w2 ⟨rfl, hb⟩
  replace hPv := b_block hb hPv (lt_of_block hPv); replace hTv := b_block hb hTv (lt_of_block hTv); replace kk := kk.trans (hb.mono kk.size); clear hb t0 t1 t2 t3 t4 t5 t6 t7
  obtain ⟨v0, v1, v2, _, _, _⟩ := three hPv
  obtain ⟨t0, t1, t2, t3, t4, t5, t6, t7⟩ := eight_cells (t := t) hTv
  go_wp2_with fail
  go_at_call 136; refine (place_any _ _ _ _ _).mono ?_; rw [H3.out]; rintro e w3 ⟨rfl, hb⟩
  replace hPv := b_block hb hPv (lt_of_block hPv); replace hTv := b_block hb hTv (lt_of_block hTv); replace kk := kk.trans (hb.mono kk.size); clear hb t0 t1 t2 t3 t4 t5 t6 t7 v0 v1 v2
  obtain ⟨t0, t1, t2, t3, t4, t5, t6, t7⟩ := eight_cells (t := t) hTv
  go_wp2_with fail
  go_at_call 137; refine (next_any _ _).mono ?_; rintro e w4 ⟨rfl, hb⟩
  replace hPv := b_block hb hPv (lt_of_block hPv); replace hTv := b_block hb hTv (lt_of_block hTv); replace kk := kk.trans (hb.mono kk.size); clear hb t0 t1 t2 t3 t4 t5 t6 t7
  go_wp2
  go_ret
  exact ⟨rfl, kk⟩

end Go.Proofs.Ytnmaljieaflnmaa
