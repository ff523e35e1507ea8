/-
  Processors, in the program (chapter 4): no Id twice, right, when to wake.
-/
import Derived.Test.YtnmaljieaflnmaaProcImpl
import Derived.Test.YtnmaljieaflnmaaHeapImpl
import Derived.Test.YtnmaljieaflnmaaHeapImpl2
import Derived.Test.YtnmaljieaflnmaaProcExact
namespace Go.Proofs.Ytnmaljieaflnmaa
open Go.RowKit Go.Joins
set_option linter.unusedVariables false

theorem diffTo_iff {f : Slots} {i : Nat} : ∀ {k : Nat}, diffTo f i k = true ↔ ∀ q, q < k → (f q).1 ≠ (f i).1
  | 0 => by simp [diffTo]
  | k + 1 => by
    rw [diffTo, Bool.and_eq_true, diffTo_iff]
    constructor
    · rintro ⟨h1, h2⟩ q hq
      by_cases e : q = k
      · subst e
        intro h
        rw [h] at h2
        simp at h2
      · exact h1 q (by omega)
    · intro h
      refine ⟨fun q hq => h q (by omega), ?_⟩
      have := h k (by omega)
      simp only [Bool.not_eq_true', beq_eq_false_iff_ne, ne_eq]
      exact fun e => this e.symm
theorem find_past {f : Slots} {n : Nat} {id : Int} : ∀ j, j ≤ n → (∀ q, q < j → (f q).1 ≠ id) → findFrom f n id 0 = findFrom f n id j
  | 0, _, _ => rfl
  | j + 1, hj, h => by rw [find_past j (by omega) fun q hq => h q (by omega), findFrom_next (by omega) (h j (by omega))]
theorem find_self {f : Slots} {n k : Nat} (hk : k < n) (h : diffTo f k k = true) : findFrom f n (f k).1 0 = k := by
  rw [find_past k (Nat.le_of_lt hk) (diffTo_iff.1 h), findFrom_here hk rfl]
theorem find_other {f : Slots} {n k : Nat} (hk : k < n) (h : diffTo f k k = false) : findFrom f n (f k).1 0 ≠ k := by
  have hex : ¬ ∀ q, q < k → (f q).1 ≠ (f k).1 := fun hh => by rw [diffTo_iff.2 hh] at h; cases h
  have : ∀ c j, k - j ≤ c → j ≤ k → (∀ q, q < j → (f q).1 ≠ (f k).1) → findFrom f n (f k).1 0 ≠ k := by
    intro c
    induction c with
    | zero => intro j h1 h2 h3; exact absurd (show ∀ q, q < k → (f q).1 ≠ (f k).1 from fun q hq => h3 q (by omega)) hex
    | succ c ih =>
      intro j h1 h2 h3
      by_cases e : j = k
      · subst e; exact absurd h3 hex
      by_cases hj : (f j).1 = (f k).1
      · rw [find_past j (by omega) h3, findFrom_here (by omega) hj]
        omega
      · refine ih (j + 1) (by omega) (by omega) fun q hq => ?_
        by_cases e2 : q = j
        · subst e2; exact hj
        · exact h3 q (by omega)
  exact this k 0 (by omega) (Nat.zero_le _) fun q hq => absurd hq (Nat.not_lt_zero _)

set_option maxRecDepth 100000 in
set_option maxHeartbeats 1000000 in
theorem noIdTwice_any {v : Value} {n : Nat} {f : Slots} {w : World} (hn : n ≤ 1048576) (h : RowAt w v n f) :
    Calls Try.prog 92 #[v] w fun x w' => x = .returned (.bool (diffAll f n)) ∧ Below w.heap.size w w' := by
  obtain ⟨a, cap, hv⟩ := h.form
  have HR := Lib.hid h
  clear h
  subst hv
  go_enter Try.func92, Try.ntmps92
  go_wp2_with fail
  go_loopw [7] (fun i wr => ∃ k : Nat, k ≤ n ∧ i = .int .i64 k ∧ Below w.heap.size w wr ∧ Hid (diffAll f k = true)) (fun i _ => n - (intOf i).toNat)
  case atStart => exact ⟨0, Nat.zero_le _, rfl, Below.refl _ _, Lib.hid rfl⟩
  case round =>
    obtain ⟨k, hk, rfl, hbw, hd⟩ := hrel
    by_cases hlt : k < n
    · have hri := HR.out.below hbw
      rcases HR.out with ⟨h0, _⟩ | ⟨b, off, cap2, e2, hl, hc⟩
      · omega
      injection e2 with e2 _ e3
      subst e2
      have c0 := (hbw.cell (p := ⟨b, off + k * 2, none⟩) hl).trans (hc k hlt).1
      have c1 := (hbw.cell (p := ⟨b, off + k * 2 + 1, none⟩) hl).trans (hc k hlt).2
      have b2 : (k : Int) < (n : Int) := by omega
      clear hc
      have ka := hbw.alloc hbw.size (.cells #[.int .i64 (f k).1, .int .i64 (f k).2] 35)
      have hrA := hri.below ((Below.refl wr.heap.size wr).alloc (Nat.le_refl _) (.cells #[.int .i64 (f k).1, .int .i64 (f k).2] 35))
      subst e3
      cases hdk : diffTo f k k
      · have hbad := Lib.hid (show false = diffAll f n from (diffAll_bad (show diffAll f (k + 1) = false by rw [diffAll, hdk, Bool.and_false]) n (by omega)).symm)
        obtain ⟨r, hr⟩ : ∃ r, findM f n (f k).1 = r := ⟨_, rfl⟩
        have hne : (r != (k : Int)) = true := by
          have := find_other hlt hdk
          rw [bne_iff_ne, ← hr]
          exact this
        clear hd hdk
        go_wp2_with fail
        go_at_call 119; refine (iFindSlot_holds _ _ f _ _ hn hrA).mono ?_; rintro x w1 ⟨rfl, hb⟩
        rw [hr]
        clear hr
        go_wp2
        go_ret
        exact ⟨ret_bool hbad.out, ka.trans (hb.mono ka.size)⟩
      · have hnext := Lib.hid (show diffAll f (k + 1) = true by rw [diffAll, hd.out, hdk]; rfl)
        have hr : findM f n (f k).1 = k := find_self hlt hdk
        have hne : ((k : Int) != (k : Int)) = false := by simp
        clear hd hdk
        go_wp2_with fail
        go_at_call 119; refine (iFindSlot_holds _ _ f _ _ hn hrA).mono ?_; rintro x w1 ⟨rfl, hb⟩
        rw [hr]
        clear hr
        have kb := ka.trans (hb.mono ka.size)
        go_wp2
        exact ⟨⟨k + 1, by omega, by go_num, kb, hnext⟩, by simp only [intOf]; omega⟩
    · have hkn : k = n := by omega
      have hkd : decide (k < n) = false := by simp; omega
      have hall := Lib.hid (show true = diffAll f n by rw [← hkn]; exact hd.out.symm)
      clear hkn
      go_wp2
      go_ret
      exact ⟨ret_bool hall.out, hbw⟩

theorem procOkB_eq (a b c : Int) (f : Slots) (n : Nat) (l e d : Int) :
    procOkB a b c f n l e d = (planB a b c && ((((heapB f n && diffAll f n) && (l == -1 || workB a b c l)) && (e == -1 || inB e 0 1000000000)) && inB d 0 n)) := by
  unfold procOkB
  cases planB a b c <;> cases heapB f n <;> cases diffAll f n <;> cases (l == -1 || workB a b c l) <;> cases (e == -1 || inB e 0 1000000000) <;> cases inB d 0 n <;> rfl

/-- is it right, but for the plan? -/
def rightB (a b c : Int) (f : Slots) (n : Nat) (l e d : Int) : Bool :=
  (((heapB f n && diffAll f n) && (l == -1 || workB a b c l)) && (e == -1 || inB e 0 1000000000)) && inB d 0 n

set_option maxRecDepth 100000 in
set_option maxHeartbeats 2000000 in
theorem rightIn_any (a b c : Int) {v : Value} {n : Nat} {f : Slots} (l e d : Int) {w : World} (hn : n ≤ 1048576) (h : RowAt w v n f) :
    Calls Try.prog 51 #[pxV v l e d, .agg #[.int .i64 a, .int .i64 b, .int .i64 c]] w fun x w' => x = .returned (.bool (rightB a b c f n l e d)) ∧ Below w.heap.size w w' := by
  have k0 := (Below.refl w.heap.size w).alloc (Nat.le_refl _) (pxB v l e d)
  have k1 := k0.alloc k0.size (.cells #[.int .i64 a, .int .i64 b, .int .i64 c] 25)
  have HR := Lib.hid (h.below k1)
  have HX := Lib.hid (alloc_block (.cells #[.int .i64 a, .int .i64 b, .int .i64 c] 25) (heap_alloc_new w (pxB v l e d)))
  have hP := heap_alloc_new (w.alloc (pxB v l e d)) (.cells #[.int .i64 a, .int .i64 b, .int .i64 c] 25)
  rw [show (w.alloc (pxB v l e d)).heap.size = w.heap.size + 1 by simp] at hP
  have HP := Lib.hid hP
  have lX := lt_of_block HX.out
  have lP := lt_of_block hP
  clear hP
  obtain ⟨va, vc, hv⟩ := h.form
  have hform : ∃ a cap, v = .slice a n cap := h.form
  clear h
  subst hv
  have kw := Below.refl ((w.alloc (pxB (.slice va n vc) l e d)).alloc (.cells #[.int .i64 a, .int .i64 b, .int .i64 c] 25)).heap.size ((w.alloc (pxB (.slice va n vc) l e d)).alloc (.cells #[.int .i64 a, .int .i64 b, .int .i64 c] 25))
  cases h2 : heapB f n
  · rw [show rightB a b c f n l e d = false by simp only [rightB, h2]; rfl]
    go_enter Try.func51, Try.ntmps51
    go_wp2_with fail
    go_at_call 91; refine (iHeapOk_holds _ _ f _ hn HR.out).mono ?_; rintro x w1 ⟨rfl, hb⟩; rw [h2]
    replace kw := kw.trans (hb.mono kw.size)
    clear hb
    obtain ⟨x0, x1, x2, x3, _, _, _, _⟩ := four (b_block kw HX.out lX)
    go_wp2
    go_ret
    exact ⟨rfl, k1.trans (kw.mono k1.size)⟩
  cases h3 : diffAll f n
  · rw [show rightB a b c f n l e d = false by simp only [rightB, h2, h3]; rfl]
    go_enter Try.func51, Try.ntmps51
    go_wp2_with fail
    go_at_call 91; refine (iHeapOk_holds _ _ f _ hn HR.out).mono ?_; rintro x w1 ⟨rfl, hb⟩; rw [h2]
    replace kw := kw.trans (hb.mono kw.size)
    clear hb
    obtain ⟨x0, x1, x2, x3, _, _, _, _⟩ := four (b_block kw HX.out lX)
    obtain ⟨y0, y1, y2, _, _, _⟩ := three (b_block kw HP.out lP)
    go_wp2_with fail
    go_at_call 92; refine (noIdTwice_any hn (HR.out.below kw)).mono ?_; rintro x w1 ⟨rfl, hb⟩; rw [h3]
    replace kw := kw.trans (hb.mono kw.size)
    clear hb x0 x1 x2 x3 y0 y1 y2
    obtain ⟨x0, x1, x2, x3, _, _, _, _⟩ := four (b_block kw HX.out lX)
    go_wp2
    go_ret
    exact ⟨rfl, k1.trans (kw.mono k1.size)⟩
  cases h4 : (l == -1 || workB a b c l)
  · rw [show rightB a b c f n l e d = false by simp only [rightB, h2, h3, h4]; rfl]
    go_enter Try.func51, Try.ntmps51
    go_wp2_with fail
    go_at_call 91; refine (iHeapOk_holds _ _ f _ hn HR.out).mono ?_; rintro x w1 ⟨rfl, hb⟩; rw [h2]
    replace kw := kw.trans (hb.mono kw.size)
    clear hb
    obtain ⟨x0, x1, x2, x3, _, _, _, _⟩ := four (b_block kw HX.out lX)
    obtain ⟨y0, y1, y2, _, _, _⟩ := three (b_block kw HP.out lP)
    go_wp2_with fail
    go_at_call 92; refine (noIdTwice_any hn (HR.out.below kw)).mono ?_; rintro x w1 ⟨rfl, hb⟩; rw [h3]
    replace kw := kw.trans (hb.mono kw.size)
    clear hb x0 x1 x2 x3 y0 y1 y2
    obtain ⟨x0, x1, x2, x3, _, _, _, _⟩ := four (b_block kw HX.out lX)
    obtain ⟨y0, y1, y2, _, _, _⟩ := three (b_block kw HP.out lP)
    go_wp2_with fail
    go_at_call 93; refine (lockRight_any _ _ _ _ _ _ hform).mono ?_; rintro x w1 ⟨rfl, hb⟩; rw [h4]
    replace kw := kw.trans (hb.mono kw.size)
    clear hb x0 x1 x2 x3 y0 y1 y2
    obtain ⟨x0, x1, x2, x3, _, _, _, _⟩ := four (b_block kw HX.out lX)
    go_wp2
    go_ret
    exact ⟨rfl, k1.trans (kw.mono k1.size)⟩
  cases h5 : (e == -1 || inB e 0 1000000000)
  · rw [show rightB a b c f n l e d = false by simp only [rightB, h2, h3, h4, h5]; rfl]
    go_enter Try.func51, Try.ntmps51
    go_wp2_with fail
    go_at_call 91; refine (iHeapOk_holds _ _ f _ hn HR.out).mono ?_; rintro x w1 ⟨rfl, hb⟩; rw [h2]
    replace kw := kw.trans (hb.mono kw.size)
    clear hb
    obtain ⟨x0, x1, x2, x3, _, _, _, _⟩ := four (b_block kw HX.out lX)
    obtain ⟨y0, y1, y2, _, _, _⟩ := three (b_block kw HP.out lP)
    go_wp2_with fail
    go_at_call 92; refine (noIdTwice_any hn (HR.out.below kw)).mono ?_; rintro x w1 ⟨rfl, hb⟩; rw [h3]
    replace kw := kw.trans (hb.mono kw.size)
    clear hb x0 x1 x2 x3 y0 y1 y2
    obtain ⟨x0, x1, x2, x3, _, _, _, _⟩ := four (b_block kw HX.out lX)
    obtain ⟨y0, y1, y2, _, _, _⟩ := three (b_block kw HP.out lP)
    go_wp2_with fail
    go_at_call 93; refine (lockRight_any _ _ _ _ _ _ hform).mono ?_; rintro x w1 ⟨rfl, hb⟩; rw [h4]
    replace kw := kw.trans (hb.mono kw.size)
    clear hb x0 x1 x2 x3 y0 y1 y2
    obtain ⟨x0, x1, x2, x3, _, _, _, _⟩ := four (b_block kw HX.out lX)
    obtain ⟨y0, y1, y2, _, _, _⟩ := three (b_block kw HP.out lP)
    go_wp2_with fail
    go_at_call 94; refine (earliestRight_any _ _ _ hform).mono ?_; rintro x w1 ⟨rfl, hb⟩; rw [h5]
    replace kw := kw.trans (hb.mono kw.size)
    clear hb x0 x1 x2 x3 y0 y1 y2
    obtain ⟨x0, x1, x2, x3, _, _, _, _⟩ := four (b_block kw HX.out lX)
    go_wp2
    go_ret
    exact ⟨rfl, k1.trans (kw.mono k1.size)⟩
  cases h6 : inB d 0 n
  · rw [show rightB a b c f n l e d = false by simp only [rightB, h2, h3, h4, h5, h6]; rfl]
    go_enter Try.func51, Try.ntmps51
    go_wp2_with fail
    go_at_call 91; refine (iHeapOk_holds _ _ f _ hn HR.out).mono ?_; rintro x w1 ⟨rfl, hb⟩; rw [h2]
    replace kw := kw.trans (hb.mono kw.size)
    clear hb
    obtain ⟨x0, x1, x2, x3, _, _, _, _⟩ := four (b_block kw HX.out lX)
    obtain ⟨y0, y1, y2, _, _, _⟩ := three (b_block kw HP.out lP)
    go_wp2_with fail
    go_at_call 92; refine (noIdTwice_any hn (HR.out.below kw)).mono ?_; rintro x w1 ⟨rfl, hb⟩; rw [h3]
    replace kw := kw.trans (hb.mono kw.size)
    clear hb x0 x1 x2 x3 y0 y1 y2
    obtain ⟨x0, x1, x2, x3, _, _, _, _⟩ := four (b_block kw HX.out lX)
    obtain ⟨y0, y1, y2, _, _, _⟩ := three (b_block kw HP.out lP)
    go_wp2_with fail
    go_at_call 93; refine (lockRight_any _ _ _ _ _ _ hform).mono ?_; rintro x w1 ⟨rfl, hb⟩; rw [h4]
    replace kw := kw.trans (hb.mono kw.size)
    clear hb x0 x1 x2 x3 y0 y1 y2
    obtain ⟨x0, x1, x2, x3, _, _, _, _⟩ := four (b_block kw HX.out lX)
    obtain ⟨y0, y1, y2, _, _, _⟩ := three (b_block kw HP.out lP)
    go_wp2_with fail
    go_at_call 94; refine (earliestRight_any _ _ _ hform).mono ?_; rintro x w1 ⟨rfl, hb⟩; rw [h5]
    replace kw := kw.trans (hb.mono kw.size)
    clear hb x0 x1 x2 x3 y0 y1 y2
    obtain ⟨x0, x1, x2, x3, _, _, _, _⟩ := four (b_block kw HX.out lX)
    obtain ⟨y0, y1, y2, _, _, _⟩ := three (b_block kw HP.out lP)
    go_wp2_with fail
    go_at_call 95; refine (deletedRight_any _ _ _ hn hform).mono ?_; rintro x w1 ⟨rfl, hb⟩; rw [h6]
    replace kw := kw.trans (hb.mono kw.size)
    clear hb x0 x1 x2 x3 y0 y1 y2
    obtain ⟨x0, x1, x2, x3, _, _, _, _⟩ := four (b_block kw HX.out lX)
    go_wp2
    go_ret
    exact ⟨rfl, k1.trans (kw.mono k1.size)⟩
  rw [show rightB a b c f n l e d = true by simp only [rightB, h2, h3, h4, h5, h6]; rfl]
  go_enter Try.func51, Try.ntmps51
  go_wp2_with fail
  go_at_call 91; refine (iHeapOk_holds _ _ f _ hn HR.out).mono ?_; rintro x w1 ⟨rfl, hb⟩; rw [h2]
  replace kw := kw.trans (hb.mono kw.size)
  clear hb
  obtain ⟨x0, x1, x2, x3, _, _, _, _⟩ := four (b_block kw HX.out lX)
  obtain ⟨y0, y1, y2, _, _, _⟩ := three (b_block kw HP.out lP)
  go_wp2_with fail
  go_at_call 92; refine (noIdTwice_any hn (HR.out.below kw)).mono ?_; rintro x w1 ⟨rfl, hb⟩; rw [h3]
  replace kw := kw.trans (hb.mono kw.size)
  clear hb x0 x1 x2 x3 y0 y1 y2
  obtain ⟨x0, x1, x2, x3, _, _, _, _⟩ := four (b_block kw HX.out lX)
  obtain ⟨y0, y1, y2, _, _, _⟩ := three (b_block kw HP.out lP)
  go_wp2_with fail
  go_at_call 93; refine (lockRight_any _ _ _ _ _ _ hform).mono ?_; rintro x w1 ⟨rfl, hb⟩; rw [h4]
  replace kw := kw.trans (hb.mono kw.size)
  clear hb x0 x1 x2 x3 y0 y1 y2
  obtain ⟨x0, x1, x2, x3, _, _, _, _⟩ := four (b_block kw HX.out lX)
  obtain ⟨y0, y1, y2, _, _, _⟩ := three (b_block kw HP.out lP)
  go_wp2_with fail
  go_at_call 94; refine (earliestRight_any _ _ _ hform).mono ?_; rintro x w1 ⟨rfl, hb⟩; rw [h5]
  replace kw := kw.trans (hb.mono kw.size)
  clear hb x0 x1 x2 x3 y0 y1 y2
  obtain ⟨x0, x1, x2, x3, _, _, _, _⟩ := four (b_block kw HX.out lX)
  obtain ⟨y0, y1, y2, _, _, _⟩ := three (b_block kw HP.out lP)
  go_wp2_with fail
  go_at_call 95; refine (deletedRight_any _ _ _ hn hform).mono ?_; rintro x w1 ⟨rfl, hb⟩; rw [h6]
  replace kw := kw.trans (hb.mono kw.size)
  clear hb x0 x1 x2 x3 y0 y1 y2
  obtain ⟨x0, x1, x2, x3, _, _, _, _⟩ := four (b_block kw HX.out lX)
  go_wp2
  go_ret
  exact ⟨rfl, k1.trans (kw.mono k1.size)⟩


set_option maxRecDepth 100000 in
set_option maxHeartbeats 2000000 in
theorem imProcOk_any : AsksR 14 := by
  intro a b c v n f l e d w hn h
  have k0 := (Below.refl w.heap.size w).alloc (Nat.le_refl _) (.cells #[.int .i64 a, .int .i64 b, .int .i64 c] 25)
  have k1 := k0.alloc k0.size (.cells #[v, .int .i64 l, .int .i64 e, .int .i64 d] 28)
  have HR := Lib.hid (h.below k1)
  have hP := alloc_block (.cells #[v, .int .i64 l, .int .i64 e, .int .i64 d] 28) (heap_alloc_new w (.cells #[.int .i64 a, .int .i64 b, .int .i64 c] 25))
  have lP := lt_of_block hP
  have HP := Lib.hid hP
  have hX := heap_alloc_new (w.alloc (.cells #[.int .i64 a, .int .i64 b, .int .i64 c] 25)) (.cells #[v, .int .i64 l, .int .i64 e, .int .i64 d] 28)
  rw [show (w.alloc (.cells #[.int .i64 a, .int .i64 b, .int .i64 c] 25)).heap.size = w.heap.size + 1 by simp] at hX
  have lX := lt_of_block hX
  have HX := Lib.hid hX
  clear hP hX
  obtain ⟨va, vc, hv⟩ := h.form
  have hform : ∃ a cap, v = .slice a n cap := h.form
  clear h
  subst hv
  have kw := Below.refl ((w.alloc (.cells #[.int .i64 a, .int .i64 b, .int .i64 c] 25)).alloc (.cells #[.slice va n vc, .int .i64 l, .int .i64 e, .int .i64 d] 28)).heap.size ((w.alloc (.cells #[.int .i64 a, .int .i64 b, .int .i64 c] 25)).alloc (.cells #[.slice va n vc, .int .i64 l, .int .i64 e, .int .i64 d] 28))
  obtain ⟨x0, x1, x2, x3, _, _, _, _⟩ := four HX.out
  obtain ⟨y0, y1, y2, _, _, _⟩ := three HP.out
  cases h1 : planB a b c
  · rw [show procOkB a b c f n l e d = false by rw [procOkB, h1, Bool.false_and]]
    go_enter Try.func14, Try.ntmps14
    go_wp2_with fail
    (first | (go_region_with (first
      | (go_at_call 50; refine (right_any _ _ _ _).mono ?_; rintro x wp ⟨rfl, hb⟩; rw [h1]; have kp := kw.drew.trans (hb.mono kw.drew.size); replace kw := kp; clear hb))) | fail)
    all_goals
      clear x0 x1 x2 x3 y0 y1 y2
      go_wp2
      go_ret
      exact ⟨rfl, k1.trans (kw.mono k1.size)⟩
  · have hR := Lib.hid (show rightB a b c f n l e d = procOkB a b c f n l e d by rw [procOkB_eq, h1, Bool.true_and]; rfl)
    go_enter Try.func14, Try.ntmps14
    go_wp2_with fail
    go_region_held3 (fun w' => w'.cell? ⟨w.heap.size, 0, none⟩ = some (.int .i64 a) ∧ w'.cell? ⟨w.heap.size, 1, none⟩ = some (.int .i64 b) ∧ w'.cell? ⟨w.heap.size, 2, none⟩ = some (.int .i64 c) ∧ w'.cell? ⟨w.heap.size + 1, 0, none⟩ = some ((.slice va n vc)) ∧ w'.cell? ⟨w.heap.size + 1, 1, none⟩ = some (.int .i64 l) ∧ w'.cell? ⟨w.heap.size + 1, 2, none⟩ = some (.int .i64 e) ∧ w'.cell? ⟨w.heap.size + 1, 3, none⟩ = some (.int .i64 d))
      (first | exact ⟨y0, y1, y2, x0, x1, x2, x3⟩ | exact ⟨(kw.cell (p := ⟨w.heap.size, 0, none⟩) lP).trans (cell_of_block HP.out 0), (kw.cell (p := ⟨w.heap.size, 1, none⟩) lP).trans (cell_of_block HP.out 1), (kw.cell (p := ⟨w.heap.size, 2, none⟩) lP).trans (cell_of_block HP.out 2), (kw.cell (p := ⟨w.heap.size + 1, 0, none⟩) lX).trans (cell_of_block HX.out 0), (kw.cell (p := ⟨w.heap.size + 1, 1, none⟩) lX).trans (cell_of_block HX.out 1), (kw.cell (p := ⟨w.heap.size + 1, 2, none⟩) lX).trans (cell_of_block HX.out 2), (kw.cell (p := ⟨w.heap.size + 1, 3, none⟩) lX).trans (cell_of_block HX.out 3)⟩ | go_keep)
      (first
        | (go_at_call 50; refine (right_any _ _ _ _).mono ?_; rintro x wp ⟨rfl, hb⟩; rw [h1]; have kp := kw.drew.trans (hb.mono kw.drew.size); replace kw := kp; clear hb)
        | (go_at_call 48; refine (processorOf_any _ _ _ hform).mono ?_; rintro x w2 ⟨rfl, hb⟩; have kp2 := kw.trans (hb.mono kw.size); replace kw := kp2; clear hb)
        | (go_at_call 51; refine (rightIn_any _ _ _ _ _ _ hn (HR.out.below kw)).mono ?_; rintro x w3 ⟨rfl, hb⟩; rw [hR.out]; have kp3 := kw.trans (hb.mono kw.size); replace kw := kp3; clear hb))
    all_goals
      clear x0 x1 x2 x3 y0 y1 y2
      go_wp2
      go_ret
      exact ⟨rfl, k1.trans (kw.mono k1.size)⟩

end Go.Proofs.Ytnmaljieaflnmaa
