/-
  The face of a step, in the program: what gives up answers the zero Done and false (chapter 9). For whatever step.
-/
import Derived.Test.YtflekodaiejflaaGreatL15
namespace Go.Proofs.YtflekodaiejflaaGreat
open Go.Deep Go.RowKit Go.Joins
set_option linter.unusedVariables false
set_option linter.unusedSimpArgs false

/-- what a step does to a deed: it is another one then, or it gives up -/
def Does (q : Bool) (N : Dn) (B mb db : Nat) (a b c d : Int) (w : World) (e : Ending) (w' : World) : Prop :=
  match q with
  | true => e = .returned (.tuple #[]) ∧ InD B mb db a b c d N w w'
  | false => GaveUp B w e w'

set_option maxRecDepth 100000 in
set_option maxHeartbeats 8000000 in
theorem tryStep_unfit (F : FuncId) (hE : ∀ (args : Array Value) (w : World), (callFunc F args).run Tryz.prog w = .ok (.enter F args) w) (a b c d : Int) (h : Hd) {tv pv : Value} {M : Me} {w : World} (hs : sizeM M ≤ 1048576) (hm : MemAt w tv pv M) (hf : stepFit a b c d M h = false) :
    Calls Tryz.prog 23 #[.agg #[.int .i64 a, .int .i64 b, .int .i64 c], meV M.c tv pv, .int .i64 d, hdV h, .func (.func F) #[] #[]] w (NewDn dn0 false w) := by
  obtain ⟨va, vc, qa, qc, rfl, rfl⟩ := hm.form
  have k0 := (((((Below.refl w.heap.size w).alloc (Nat.le_refl _) (.cells #[.int .i64 a, .int .i64 b, .int .i64 c] 46)).alloc (by simp) (memO M.c (.slice va M.tn vc) (.slice qa M.pn qc) 36)).alloc (by simp; omega) (.cells (hdCells h) 39)).alloc (by simp; omega) (.cells #[.int .i64 0, .slice none 0 0, .slice none 0 0, .int .i64 0, .int .i64 0, .int .i64 0, .int .i64 0, .int .i64 0, .int .i64 0, .int .i64 0, .bool false, .int .i64 0, .int .i64 0, .int .i64 0, .int .i64 0, .int .i64 0, .int .i64 0, .int .i64 0, .int .i64 0, .int .i64 0] 43))
  have hP := alloc_block (.cells #[.int .i64 0, .slice none 0 0, .slice none 0 0, .int .i64 0, .int .i64 0, .int .i64 0, .int .i64 0, .int .i64 0, .int .i64 0, .int .i64 0, .bool false, .int .i64 0, .int .i64 0, .int .i64 0, .int .i64 0, .int .i64 0, .int .i64 0, .int .i64 0, .int .i64 0, .int .i64 0] 43) (alloc_block (.cells (hdCells h) 39) (alloc_block (memO M.c (.slice va M.tn vc) (.slice qa M.pn qc) 36) (heap_alloc_new w (.cells #[.int .i64 a, .int .i64 b, .int .i64 c] 46))))
  have hX := heap_alloc_new (w.alloc (.cells #[.int .i64 a, .int .i64 b, .int .i64 c] 46)) (memO M.c (.slice va M.tn vc) (.slice qa M.pn qc) 36)
  rw [show (w.alloc (.cells #[.int .i64 a, .int .i64 b, .int .i64 c] 46)).heap.size = w.heap.size + 1 by simp] at hX
  replace hX := alloc_block (.cells #[.int .i64 0, .slice none 0 0, .slice none 0 0, .int .i64 0, .int .i64 0, .int .i64 0, .int .i64 0, .int .i64 0, .int .i64 0, .int .i64 0, .bool false, .int .i64 0, .int .i64 0, .int .i64 0, .int .i64 0, .int .i64 0, .int .i64 0, .int .i64 0, .int .i64 0, .int .i64 0] 43) (alloc_block (.cells (hdCells h) 39) hX)
  have hH := heap_alloc_new ((w.alloc (.cells #[.int .i64 a, .int .i64 b, .int .i64 c] 46)).alloc (memO M.c (.slice va M.tn vc) (.slice qa M.pn qc) 36)) (.cells (hdCells h) 39)
  rw [show ((w.alloc (.cells #[.int .i64 a, .int .i64 b, .int .i64 c] 46)).alloc (memO M.c (.slice va M.tn vc) (.slice qa M.pn qc) 36)).heap.size = w.heap.size + 1 + 1 by simp] at hH
  replace hH := alloc_block (.cells #[.int .i64 0, .slice none 0 0, .slice none 0 0, .int .i64 0, .int .i64 0, .int .i64 0, .int .i64 0, .int .i64 0, .int .i64 0, .int .i64 0, .bool false, .int .i64 0, .int .i64 0, .int .i64 0, .int .i64 0, .int .i64 0, .int .i64 0, .int .i64 0, .int .i64 0, .int .i64 0] 43) hH
  have hR := heap_alloc_new (((w.alloc (.cells #[.int .i64 a, .int .i64 b, .int .i64 c] 46)).alloc (memO M.c (.slice va M.tn vc) (.slice qa M.pn qc) 36)).alloc (.cells (hdCells h) 39)) (.cells #[.int .i64 0, .slice none 0 0, .slice none 0 0, .int .i64 0, .int .i64 0, .int .i64 0, .int .i64 0, .int .i64 0, .int .i64 0, .int .i64 0, .bool false, .int .i64 0, .int .i64 0, .int .i64 0, .int .i64 0, .int .i64 0, .int .i64 0, .int .i64 0, .int .i64 0, .int .i64 0] 43)
  rw [show (((w.alloc (.cells #[.int .i64 a, .int .i64 b, .int .i64 c] 46)).alloc (memO M.c (.slice va M.tn vc) (.slice qa M.pn qc) 36)).alloc (.cells (hdCells h) 39)).heap.size = w.heap.size + 1 + 1 + 1 by simp] at hR
  have HM := Lib.hid (hm.below k0)
  have s0 : ((((w.alloc (.cells #[.int .i64 a, .int .i64 b, .int .i64 c] 46)).alloc (memO M.c (.slice va M.tn vc) (.slice qa M.pn qc) 36)).alloc (.cells (hdCells h) 39)).alloc (.cells #[.int .i64 0, .slice none 0 0, .slice none 0 0, .int .i64 0, .int .i64 0, .int .i64 0, .int .i64 0, .int .i64 0, .int .i64 0, .int .i64 0, .bool false, .int .i64 0, .int .i64 0, .int .i64 0, .int .i64 0, .int .i64 0, .int .i64 0, .int .i64 0, .int .i64 0, .int .i64 0] 43)).heap.size = w.heap.size + 1 + 1 + 1 + 1 := by simp
  clear hm
  go_enter_defers Tryz.func23, Tryz.ntmps23
  go_upto_region 1 with fail
  generalize (((w.alloc (.cells #[.int .i64 a, .int .i64 b, .int .i64 c] 46)).alloc (memO M.c (.slice va M.tn vc) (.slice qa M.pn qc) 36)).alloc (.cells (hdCells h) 39)).alloc (.cells #[.int .i64 0, .slice none 0 0, .slice none 0 0, .int .i64 0, .int .i64 0, .int .i64 0, .int .i64 0, .int .i64 0, .int .i64 0, .int .i64 0, .bool false, .int .i64 0, .int .i64 0, .int .i64 0, .int .i64 0, .int .i64 0, .int .i64 0, .int .i64 0, .int .i64 0, .int .i64 0] 43) = w1 at k0 hP hX hH hR HM s0 ⊢
  obtain ⟨p0, p1, p2, _, _, _⟩ := three hP
  obtain ⟨x0, x1, x2, _, _, _⟩ := three hX
  obtain ⟨h0, h1, h2, h3, h4, h5, h6, h7, h8, h9, h10, h11, _⟩ := twelve hH
  go_wp2_with (go_at_call 46; refine (newDeed_no a b c d h hs HM.out hf).mono ?_; rintro e w2 ⟨⟨u, pv, rfl⟩, hb⟩)
  replace hR := b_block hb hR (lt_of_block hR)
  have kz := k0.trans (hb.mono k0.size)
  clear p0 p1 p2 x0 x1 x2 h0 h1 h2 h3 h4 h5 h6 h7 h8 h9 h10 h11 hP hX hH
  refine leaves_cons (f := 45) (args := #[]) (by simp) (by simp [go_sem]) ?_
  refine (catch_panicking _ _ _ _).mono ?_
  rintro e u' w9 ⟨rfl, rfl, rfl⟩
  exact ⟨_, results_pair (cs := [.int .i64 0, .slice none 0 0, .slice none 0 0, .int .i64 0, .int .i64 0, .int .i64 0, .int .i64 0, .int .i64 0, .int .i64 0, .int .i64 0, .bool false, .int .i64 0, .int .i64 0, .int .i64 0, .int .i64 0, .int .i64 0, .int .i64 0, .int .i64 0, .int .i64 0, .int .i64 0]) rfl rfl rfl (range_of_block hR) Tryz.underlying43 rfl done_info, _, _, rfl, own_zero _ _, kz⟩

set_option maxRecDepth 100000 in
set_option maxHeartbeats 8000000 in
theorem tryStep_no (F : FuncId) (hE : ∀ (args : Array Value) (w : World), (callFunc F args).run Tryz.prog w = .ok (.enter F args) w) (a b c d : Int) (h : Hd) {tv pv : Value} {M : Me} {w : World} (hs : sizeM M ≤ 1048576) (hm : MemAt w tv pv M) {N : Dn} (HF : RowKit.Hid (∀ (W : World) (B mb db : Nat), Below w.heap.size w W → B ≤ W.heap.size → DeedX W B mb db a b c d ⟨M, h, et0⟩ → Calls Tryz.prog F #[ptrV db] W (Does false N B mb db a b c d W))) (hf : stepFit a b c d M h = true) :
    Calls Tryz.prog 23 #[.agg #[.int .i64 a, .int .i64 b, .int .i64 c], meV M.c tv pv, .int .i64 d, hdV h, .func (.func F) #[] #[]] w (NewDn dn0 false w) := by
  obtain ⟨va, vc, qa, qc, rfl, rfl⟩ := hm.form
  have k0 := (((((Below.refl w.heap.size w).alloc (Nat.le_refl _) (.cells #[.int .i64 a, .int .i64 b, .int .i64 c] 46)).alloc (by simp) (memO M.c (.slice va M.tn vc) (.slice qa M.pn qc) 36)).alloc (by simp; omega) (.cells (hdCells h) 39)).alloc (by simp; omega) (.cells #[.int .i64 0, .slice none 0 0, .slice none 0 0, .int .i64 0, .int .i64 0, .int .i64 0, .int .i64 0, .int .i64 0, .int .i64 0, .int .i64 0, .bool false, .int .i64 0, .int .i64 0, .int .i64 0, .int .i64 0, .int .i64 0, .int .i64 0, .int .i64 0, .int .i64 0, .int .i64 0] 43))
  have hP := alloc_block (.cells #[.int .i64 0, .slice none 0 0, .slice none 0 0, .int .i64 0, .int .i64 0, .int .i64 0, .int .i64 0, .int .i64 0, .int .i64 0, .int .i64 0, .bool false, .int .i64 0, .int .i64 0, .int .i64 0, .int .i64 0, .int .i64 0, .int .i64 0, .int .i64 0, .int .i64 0, .int .i64 0] 43) (alloc_block (.cells (hdCells h) 39) (alloc_block (memO M.c (.slice va M.tn vc) (.slice qa M.pn qc) 36) (heap_alloc_new w (.cells #[.int .i64 a, .int .i64 b, .int .i64 c] 46))))
  have hX := heap_alloc_new (w.alloc (.cells #[.int .i64 a, .int .i64 b, .int .i64 c] 46)) (memO M.c (.slice va M.tn vc) (.slice qa M.pn qc) 36)
  rw [show (w.alloc (.cells #[.int .i64 a, .int .i64 b, .int .i64 c] 46)).heap.size = w.heap.size + 1 by simp] at hX
  replace hX := alloc_block (.cells #[.int .i64 0, .slice none 0 0, .slice none 0 0, .int .i64 0, .int .i64 0, .int .i64 0, .int .i64 0, .int .i64 0, .int .i64 0, .int .i64 0, .bool false, .int .i64 0, .int .i64 0, .int .i64 0, .int .i64 0, .int .i64 0, .int .i64 0, .int .i64 0, .int .i64 0, .int .i64 0] 43) (alloc_block (.cells (hdCells h) 39) hX)
  have hH := heap_alloc_new ((w.alloc (.cells #[.int .i64 a, .int .i64 b, .int .i64 c] 46)).alloc (memO M.c (.slice va M.tn vc) (.slice qa M.pn qc) 36)) (.cells (hdCells h) 39)
  rw [show ((w.alloc (.cells #[.int .i64 a, .int .i64 b, .int .i64 c] 46)).alloc (memO M.c (.slice va M.tn vc) (.slice qa M.pn qc) 36)).heap.size = w.heap.size + 1 + 1 by simp] at hH
  replace hH := alloc_block (.cells #[.int .i64 0, .slice none 0 0, .slice none 0 0, .int .i64 0, .int .i64 0, .int .i64 0, .int .i64 0, .int .i64 0, .int .i64 0, .int .i64 0, .bool false, .int .i64 0, .int .i64 0, .int .i64 0, .int .i64 0, .int .i64 0, .int .i64 0, .int .i64 0, .int .i64 0, .int .i64 0] 43) hH
  have hR := heap_alloc_new (((w.alloc (.cells #[.int .i64 a, .int .i64 b, .int .i64 c] 46)).alloc (memO M.c (.slice va M.tn vc) (.slice qa M.pn qc) 36)).alloc (.cells (hdCells h) 39)) (.cells #[.int .i64 0, .slice none 0 0, .slice none 0 0, .int .i64 0, .int .i64 0, .int .i64 0, .int .i64 0, .int .i64 0, .int .i64 0, .int .i64 0, .bool false, .int .i64 0, .int .i64 0, .int .i64 0, .int .i64 0, .int .i64 0, .int .i64 0, .int .i64 0, .int .i64 0, .int .i64 0] 43)
  rw [show (((w.alloc (.cells #[.int .i64 a, .int .i64 b, .int .i64 c] 46)).alloc (memO M.c (.slice va M.tn vc) (.slice qa M.pn qc) 36)).alloc (.cells (hdCells h) 39)).heap.size = w.heap.size + 1 + 1 + 1 by simp] at hR
  have HM := Lib.hid (hm.below k0)
  have s0 : ((((w.alloc (.cells #[.int .i64 a, .int .i64 b, .int .i64 c] 46)).alloc (memO M.c (.slice va M.tn vc) (.slice qa M.pn qc) 36)).alloc (.cells (hdCells h) 39)).alloc (.cells #[.int .i64 0, .slice none 0 0, .slice none 0 0, .int .i64 0, .int .i64 0, .int .i64 0, .int .i64 0, .int .i64 0, .int .i64 0, .int .i64 0, .bool false, .int .i64 0, .int .i64 0, .int .i64 0, .int .i64 0, .int .i64 0, .int .i64 0, .int .i64 0, .int .i64 0, .int .i64 0] 43)).heap.size = w.heap.size + 1 + 1 + 1 + 1 := by simp
  clear hm
  go_enter_defers Tryz.func23, Tryz.ntmps23
  go_upto_region 1 with fail
  generalize (((w.alloc (.cells #[.int .i64 a, .int .i64 b, .int .i64 c] 46)).alloc (memO M.c (.slice va M.tn vc) (.slice qa M.pn qc) 36)).alloc (.cells (hdCells h) 39)).alloc (.cells #[.int .i64 0, .slice none 0 0, .slice none 0 0, .int .i64 0, .int .i64 0, .int .i64 0, .int .i64 0, .int .i64 0, .int .i64 0, .int .i64 0, .bool false, .int .i64 0, .int .i64 0, .int .i64 0, .int .i64 0, .int .i64 0, .int .i64 0, .int .i64 0, .int .i64 0, .int .i64 0] 43) = w1 at k0 hP hX hH hR HM s0 ⊢
  obtain ⟨p0, p1, p2, _, _, _⟩ := three hP
  obtain ⟨x0, x1, x2, _, _, _⟩ := three hX
  obtain ⟨h0, h1, h2, h3, h4, h5, h6, h7, h8, h9, h10, h11, _⟩ := twelve hH
  go_wp2_with fail
  go_at_call 46; refine (newDeed_yes a b c d h hs HM.out hf).mono ?_; rintro e w2 ⟨mb, db, rfl, hD, hb⟩
  have lR := lt_of_block hR
  replace hR := b_block hb hR lR
  have k2 := k0.trans (hb.mono k0.size)
  have s2 := hb.size
  clear p0 p1 p2 x0 x1 x2 h0 h1 h2 h3 h4 h5 h6 h7 h8 h9 h10 h11 hP hX hH HM k0 hb
  go_wp2_with fail
  refine (HF.out _ _ _ _ k2 s2 hD).mono ?_; rintro e w3 ⟨⟨u, pv, rfl⟩, hb⟩
  replace hR := b_block hb hR lR
  have kz := k2.trans (hb.mono (by omega))
  go_wp2
  refine leaves_cons (f := 45) (args := #[]) (by simp) (by simp [go_sem]) ?_
  refine (catch_panicking _ _ _ _).mono ?_
  rintro e u' w9 ⟨rfl, rfl, rfl⟩
  exact ⟨_, results_pair (cs := [.int .i64 0, .slice none 0 0, .slice none 0 0, .int .i64 0, .int .i64 0, .int .i64 0, .int .i64 0, .int .i64 0, .int .i64 0, .int .i64 0, .bool false, .int .i64 0, .int .i64 0, .int .i64 0, .int .i64 0, .int .i64 0, .int .i64 0, .int .i64 0, .int .i64 0, .int .i64 0]) rfl rfl rfl (range_of_block hR) Tryz.underlying43 rfl done_info, _, _, rfl, own_zero _ _, kz⟩

set_option maxRecDepth 100000 in
set_option maxHeartbeats 8000000 in
theorem tryStep_yes (F : FuncId) (hE : ∀ (args : Array Value) (w : World), (callFunc F args).run Tryz.prog w = .ok (.enter F args) w) (a b c d : Int) (h : Hd) {tv pv : Value} {M : Me} {w : World} (hs : sizeM M ≤ 1048576) (hm : MemAt w tv pv M) {N : Dn} (hN : sizeM N.m ≤ 1048576) (HF : RowKit.Hid (∀ (W : World) (B mb db : Nat), Below w.heap.size w W → B ≤ W.heap.size → DeedX W B mb db a b c d ⟨M, h, et0⟩ → Calls Tryz.prog F #[ptrV db] W (Does true N B mb db a b c d W))) (hf : stepFit a b c d M h = true) :
    Calls Tryz.prog 23 #[.agg #[.int .i64 a, .int .i64 b, .int .i64 c], meV M.c tv pv, .int .i64 d, hdV h, .func (.func F) #[] #[]] w (NewDn N true w) := by
  obtain ⟨va, vc, qa, qc, rfl, rfl⟩ := hm.form
  have k0 := (((((Below.refl w.heap.size w).alloc (Nat.le_refl _) (.cells #[.int .i64 a, .int .i64 b, .int .i64 c] 46)).alloc (by simp) (memO M.c (.slice va M.tn vc) (.slice qa M.pn qc) 36)).alloc (by simp; omega) (.cells (hdCells h) 39)).alloc (by simp; omega) (.cells #[.int .i64 0, .slice none 0 0, .slice none 0 0, .int .i64 0, .int .i64 0, .int .i64 0, .int .i64 0, .int .i64 0, .int .i64 0, .int .i64 0, .bool false, .int .i64 0, .int .i64 0, .int .i64 0, .int .i64 0, .int .i64 0, .int .i64 0, .int .i64 0, .int .i64 0, .int .i64 0] 43))
  have hP := alloc_block (.cells #[.int .i64 0, .slice none 0 0, .slice none 0 0, .int .i64 0, .int .i64 0, .int .i64 0, .int .i64 0, .int .i64 0, .int .i64 0, .int .i64 0, .bool false, .int .i64 0, .int .i64 0, .int .i64 0, .int .i64 0, .int .i64 0, .int .i64 0, .int .i64 0, .int .i64 0, .int .i64 0] 43) (alloc_block (.cells (hdCells h) 39) (alloc_block (memO M.c (.slice va M.tn vc) (.slice qa M.pn qc) 36) (heap_alloc_new w (.cells #[.int .i64 a, .int .i64 b, .int .i64 c] 46))))
  have hX := heap_alloc_new (w.alloc (.cells #[.int .i64 a, .int .i64 b, .int .i64 c] 46)) (memO M.c (.slice va M.tn vc) (.slice qa M.pn qc) 36)
  rw [show (w.alloc (.cells #[.int .i64 a, .int .i64 b, .int .i64 c] 46)).heap.size = w.heap.size + 1 by simp] at hX
  replace hX := alloc_block (.cells #[.int .i64 0, .slice none 0 0, .slice none 0 0, .int .i64 0, .int .i64 0, .int .i64 0, .int .i64 0, .int .i64 0, .int .i64 0, .int .i64 0, .bool false, .int .i64 0, .int .i64 0, .int .i64 0, .int .i64 0, .int .i64 0, .int .i64 0, .int .i64 0, .int .i64 0, .int .i64 0] 43) (alloc_block (.cells (hdCells h) 39) hX)
  have hH := heap_alloc_new ((w.alloc (.cells #[.int .i64 a, .int .i64 b, .int .i64 c] 46)).alloc (memO M.c (.slice va M.tn vc) (.slice qa M.pn qc) 36)) (.cells (hdCells h) 39)
  rw [show ((w.alloc (.cells #[.int .i64 a, .int .i64 b, .int .i64 c] 46)).alloc (memO M.c (.slice va M.tn vc) (.slice qa M.pn qc) 36)).heap.size = w.heap.size + 1 + 1 by simp] at hH
  replace hH := alloc_block (.cells #[.int .i64 0, .slice none 0 0, .slice none 0 0, .int .i64 0, .int .i64 0, .int .i64 0, .int .i64 0, .int .i64 0, .int .i64 0, .int .i64 0, .bool false, .int .i64 0, .int .i64 0, .int .i64 0, .int .i64 0, .int .i64 0, .int .i64 0, .int .i64 0, .int .i64 0, .int .i64 0] 43) hH
  have hR := heap_alloc_new (((w.alloc (.cells #[.int .i64 a, .int .i64 b, .int .i64 c] 46)).alloc (memO M.c (.slice va M.tn vc) (.slice qa M.pn qc) 36)).alloc (.cells (hdCells h) 39)) (.cells #[.int .i64 0, .slice none 0 0, .slice none 0 0, .int .i64 0, .int .i64 0, .int .i64 0, .int .i64 0, .int .i64 0, .int .i64 0, .int .i64 0, .bool false, .int .i64 0, .int .i64 0, .int .i64 0, .int .i64 0, .int .i64 0, .int .i64 0, .int .i64 0, .int .i64 0, .int .i64 0] 43)
  rw [show (((w.alloc (.cells #[.int .i64 a, .int .i64 b, .int .i64 c] 46)).alloc (memO M.c (.slice va M.tn vc) (.slice qa M.pn qc) 36)).alloc (.cells (hdCells h) 39)).heap.size = w.heap.size + 1 + 1 + 1 by simp] at hR
  have HM := Lib.hid (hm.below k0)
  have s0 : ((((w.alloc (.cells #[.int .i64 a, .int .i64 b, .int .i64 c] 46)).alloc (memO M.c (.slice va M.tn vc) (.slice qa M.pn qc) 36)).alloc (.cells (hdCells h) 39)).alloc (.cells #[.int .i64 0, .slice none 0 0, .slice none 0 0, .int .i64 0, .int .i64 0, .int .i64 0, .int .i64 0, .int .i64 0, .int .i64 0, .int .i64 0, .bool false, .int .i64 0, .int .i64 0, .int .i64 0, .int .i64 0, .int .i64 0, .int .i64 0, .int .i64 0, .int .i64 0, .int .i64 0] 43)).heap.size = w.heap.size + 1 + 1 + 1 + 1 := by simp
  clear hm
  go_enter_defers Tryz.func23, Tryz.ntmps23
  go_upto_region 1 with fail
  generalize (((w.alloc (.cells #[.int .i64 a, .int .i64 b, .int .i64 c] 46)).alloc (memO M.c (.slice va M.tn vc) (.slice qa M.pn qc) 36)).alloc (.cells (hdCells h) 39)).alloc (.cells #[.int .i64 0, .slice none 0 0, .slice none 0 0, .int .i64 0, .int .i64 0, .int .i64 0, .int .i64 0, .int .i64 0, .int .i64 0, .int .i64 0, .bool false, .int .i64 0, .int .i64 0, .int .i64 0, .int .i64 0, .int .i64 0, .int .i64 0, .int .i64 0, .int .i64 0, .int .i64 0] 43) = w1 at k0 hP hX hH hR HM s0 ⊢
  obtain ⟨p0, p1, p2, _, _, _⟩ := three hP
  obtain ⟨x0, x1, x2, _, _, _⟩ := three hX
  obtain ⟨h0, h1, h2, h3, h4, h5, h6, h7, h8, h9, h10, h11, _⟩ := twelve hH
  go_wp2_with fail
  go_at_call 46; refine (newDeed_yes a b c d h hs HM.out hf).mono ?_; rintro e w2 ⟨mb, db, rfl, hD, hb⟩
  have lR := lt_of_block hR
  replace hR := b_block hb hR lR
  have k2 := k0.trans (hb.mono k0.size)
  have s2 := hb.size
  clear p0 p1 p2 x0 x1 x2 h0 h1 h2 h3 h4 h5 h6 h7 h8 h9 h10 h11 hP hX hH HM k0 hb
  go_wp2_with fail
  refine (HF.out _ _ _ _ k2 s2 hD).mono ?_; rintro e w3 ⟨rfl, hD3, k3⟩
  have hB3 : w1.heap.size ≤ w3.heap.size := Nat.le_trans s2 k3.below.size
  replace hR := b_block k3.below hR lR
  replace k3 := k2.trans (k3.below.mono (by omega))
  clear hD k2
  go_wp2_with fail
  go_at_call 47; refine (done_any hN hB3 hD3).mono ?_; rintro e w4 ⟨t4, p4, rfl, hO, hb⟩
  replace hR := b_block hb hR (lt_of_block hR)
  have k4 := k3.trans (hb.mono (by omega))
  clear hD3 k3 hb
  obtain ⟨ta, tc, pa, pc, ht, hp⟩ := hO.at.form
  subst ht hp
  obtain ⟨cs, hcs⟩ : ∃ cs : Array Value, dnCells N (.slice ta N.m.tn tc) (.slice pa N.m.pn pc) = cs := ⟨_, rfl⟩
  rw [show dnV N (.slice ta N.m.tn tc) (.slice pa N.m.pn pc) = Value.agg cs from congrArg Value.agg hcs]
  have hsz : cs.size = 20 := by { rw [← hcs]; rfl }
  have hone : cs.all (·.oneCell') = true := by { rw [← hcs]; simp [Value.oneCell'] }
  have hst := run_store_letter (P := Tryz.prog) hsz hone w4 (w.heap.size + 1 + 1 + 1) (there_of_cells hR)
  have hR5 := heap_setCells (cs := cs) hR hsz
  have hO5 := OwnMemIn.own (hO.setCells cs.toList hR)
  have k5 := b_setCells (b := w.heap.size + 1 + 1 + 1) (n := w.heap.size) (by omega) cs.toList 0 k4
  clear hR hO k4
  go_wp2
  refine leaves_cons (f := 45) (args := #[]) (by simp) (by simp [go_sem]) ?_
  refine (catch_idle _).mono ?_
  rintro e u' w9 ⟨rfl, rfl, rfl⟩
  exact ⟨_, results_pair (cs := cs.toList) rfl rfl rfl (range_of_block hR5) Tryz.underlying43 rfl (by rw [done_info]; simp [hsz]), _, _, by rw [← hcs]; rfl, hO5.mono (by omega), k5⟩

end Go.Proofs.YtflekodaiejflaaGreat
