/-
  A step while it is made, as the program works with it (chapter 9): a memory of its own, the worker, the hand, what is told.
-/
import Derived.Test.YtflekodaiejflaaGreatL09
import Derived.Test.YtflekodaiejflaaGreatL10
import Derived.Test.YtflekodaiejflaaGreatL04
import Derived.StillTailTactics
import Derived.Defers
import Derived.Recover
namespace Go.Proofs.YtflekodaiejflaaGreat
open Go.RowKit Go.Joins
set_option linter.unusedVariables false
set_option linter.unusedSimpArgs false

abbrev ddO (mb : Nat) (d : Int) (h : Hd) (v : Et) : Obj := .cells #[ptrV mb, .int .i64 d, .int .i64 h.pos, .int .i64 h.call.code, .int .i64 h.call.a, .int .i64 h.call.b, .int .i64 h.call.c, .int .i64 h.tim, .int .i64 h.whe, .bool h.had, .int .i64 h.cnt, .int .i64 h.beg, .int .i64 h.rep, .int .i64 h.out, .int .i64 v.kin, .int .i64 v.tim, .int .i64 v.gen, .int .i64 v.whe, .int .i64 v.clk] 98
/-- the lock of a processor is stored -/
theorem ListXAt.setL {w : World} {B g m cap : Nat} {P : Pcs} {V : Nat → Value} (h : ListXAt w B g m cap P V) {k : Nat} (hk : k < m) (x : Int) : ListXAt (w.setCell ⟨g, k * 4, none⟩ (.int .i64 x)) B g m cap (putP P k (pcSet (P k) 1 x)) V := by
  obtain ⟨h1, h2, h3, cur, hh, hs, hr⟩ := h
  refine ⟨h1, h2, h3, _, block_setCell hh (i := k * 4) _, by simp [hs], fun i hi => ?_⟩
  obtain ⟨x0, x1, x2, x3⟩ := hr i hi
  by_cases e : i = k
  · subst e
    rw [putP_same]
    refine ⟨?_, ?_, ?_, ?_⟩
    all_goals first
      | (simp only [Array.getElem?_setIfInBounds, if_true, pcSet]; rw [if_pos (by omega)])
      | (rw [Array.getElem?_setIfInBounds_ne (by omega)]; assumption)
  · rw [putP_other P _ e]
    refine ⟨?_, ?_, ?_, ?_⟩
    all_goals (rw [Array.getElem?_setIfInBounds_ne (by omega)]; assumption)
theorem OpenX.setL {w : World} {B mb g : Nat} {a b c : Int} {tv : Value} {V : Nat → Value} {M : Me} (h : OpenX w B mb a b c tv g V M) {k : Nat} (hk : k < M.pn) (x : Int) :
    OpenX (w.setCell ⟨g, k * 4, none⟩ (.int .i64 x)) B mb a b c tv g V (setPc M k 1 x) := by
  obtain ⟨cs, hcs⟩ := h.l.hh
  refine ⟨h.m0, (heap_set1 w g _ _ mb (ne_ty h.m hcs (by decide))).trans h.m, h.t.other hcs (by decide) (heap_set1 w g _ _), h.l.setL hk x, ?_⟩
  have hh := h.h.other (w' := w.setCell ⟨g, k * 4, none⟩ (.int .i64 x)) (fun i hi y hy => heap_set1 w g _ _ y (own_ne (h.h.1 i hi) hcs (by decide) y hy))
  refine ⟨fun i hi => ?_, hh.2⟩
  have hi2 := hh.1 i hi
  show OwnRow _ B (V i) (putP M.p k (pcSet (M.p k) 1 x) i).n (putP M.p k (pcSet (M.p k) 1 x) i).f
  by_cases e : i = k
  · subst e
    rw [putP_same]
    exact hi2
  · rw [putP_other M.p _ e]; exact hi2
theorem OpenX.other {w w' : World} {B mb g x : Nat} {a b c : Int} {tv : Value} {V : Nat → Value} {M : Me} {cx : Array Value} {tx : TypeId} (h : OpenX w B mb a b c tv g V M) (hx : w.heap[x]? = some (.cells cx tx (0, 0)))
    (h1 : 90 ≠ tx) (h2 : 125 ≠ tx) (h3 : 133 ≠ tx) (h4 : 121 ≠ tx) (e : ∀ y, y ≠ x → w'.heap[y]? = w.heap[y]?) : OpenX w' B mb a b c tv g V M := by
  obtain ⟨cs, hcs⟩ := h.l.hh
  exact ⟨h.m0, (e mb (ne_ty h.m hx h4)).trans h.m, h.t.other hx h1 e, h.l.block (e g (ne_ty hcs hx h2)), h.h.other (fun i hi y hy => e y (own_ne (h.h.1 i hi) hx h3 y hy))⟩
theorem OwnedAt.other {w w' : World} {B mb x : Nat} {a b c : Int} {M : Me} {cx : Array Value} {tx : TypeId} (h : OwnedAt w B mb a b c M) (hx : w.heap[x]? = some (.cells cx tx (0, 0)))
    (h1 : 90 ≠ tx) (h2 : 125 ≠ tx) (h3 : 133 ≠ tx) (h4 : 121 ≠ tx) (e : ∀ y, y ≠ x → w'.heap[y]? = w.heap[y]?) : OwnedAt w' B mb a b c M := by
  obtain ⟨tv, g, V, ho⟩ := h.opened
  exact (ho.other hx h1 h2 h3 h4 e).own

/-- a step while it is made -/
structure DeedX (w : World) (B mb db : Nat) (a b c d : Int) (D : Dn) : Prop where
  d0 : B ≤ db
  e : w.heap[db]? = some (ddO mb d D.h D.v)
  o : OwnedAt w B mb a b c D.m
/-- what a call leaves as it was that works on such a step -/
abbrev listsD : List TypeId := [90, 125, 133, 121, 98]
structure Wd (B : Nat) (w w' : World) : Prop where
  below : Below B w w'
  keeps : KeepsBut listsD w w'
theorem KeepsBut.wider {S T : List TypeId} {w w' : World} (h : KeepsBut S w w') (hs : ∀ t, t ∈ S → t ∈ T) : KeepsBut T w w' := fun x cs t hx ht => h x cs t hx (fun h2 => ht (hs t h2))
theorem Wx.deed {B : Nat} {w w' : World} (h : Wx B w w') : Wd B w w' := ⟨h.below, h.keeps.wider (fun t ht => by simp only [List.mem_cons, List.not_mem_nil, or_false] at ht ⊢; rcases ht with h | h | h <;> simp [h])⟩
theorem Wd.refl (B : Nat) (w : World) : Wd B w w := ⟨Below.refl B w, KeepsBut.refl _ w⟩
theorem Wd.trans {B : Nat} {a b c : World} (h : Wd B a b) (k : Wd B b c) : Wd B a c := ⟨h.below.trans k.below, h.keeps.trans k.keeps⟩
theorem Wd.of_new {B : Nat} {b c : World} (k : Below b.heap.size b c) (hB : B ≤ b.heap.size) : Wd B b c := ⟨k.mono hB, KeepsBut.of_below k⟩
theorem Wd.new {B : Nat} {a b c : World} (h : Wd B a b) (k : Below b.heap.size b c) (hB : B ≤ a.heap.size) : Wd B a c := h.trans (.of_new k (Nat.le_trans hB h.below.size))
theorem Wd.set {B : Nat} {a w : World} (h : Wd B a w) {g : Nat} {cs : Array Value} {t : TypeId} (hg : w.heap[g]? = some (.cells cs t (0, 0))) (hB : B ≤ g) (ht : t ∈ listsD) (o : Nat) (u : Value) : Wd B a (w.setCell ⟨g, o, none⟩ u) :=
  ⟨h.below.setCell (p := ⟨g, o, none⟩) hB u, h.keeps.set hg ht o u⟩
theorem Wd.setD {B mb db : Nat} {x y z d : Int} {D : Dn} {a w : World} (h : Wd B a w) (ho : DeedX w B mb db x y z d D) (o : Nat) (u : Value) : Wd B a (w.setCell ⟨db, o, none⟩ u) := h.set ho.e ho.d0 (by decide) o u
theorem Wd.kept {B b : Nat} {w w' : World} (h : Wd B w w') {cs : Array Value} {t : TypeId} (hb : w.heap[b]? = some (.cells cs t (0, 0))) (ht : t ∉ listsD) : w'.heap[b]? = some (.cells cs t (0, 0)) := (h.keeps b cs t hb ht).trans hb
theorem DeedX.lt {w : World} {B mb db : Nat} {a b c d : Int} {D : Dn} (h : DeedX w B mb db a b c d D) : db < w.heap.size := lt_of_block h.e
theorem DeedX.below {w w' : World} {B mb db : Nat} {a b c d : Int} {D : Dn} (h : DeedX w B mb db a b c d D) (hb : Below w.heap.size w w') : DeedX w' B mb db a b c d D := ⟨h.d0, b_block hb h.e h.lt, h.o.below hb⟩
/-- the deed's own cells are stored -/
theorem DeedX.put {w w' : World} {B mb db : Nat} {a b c d : Int} {D : Dn} (h : DeedX w B mb db a b c d D) {h' : Hd} {v' : Et} (e : ∀ y, y ≠ db → w'.heap[y]? = w.heap[y]?) (he : w'.heap[db]? = some (ddO mb d h' v')) : DeedX w' B mb db a b c d ⟨D.m, h', v'⟩ :=
  ⟨h.d0, he, h.o.other h.e (by decide) (by decide) (by decide) (by decide) e⟩
/-- the memory is another one -/
theorem DeedX.mem {w w' : World} {B mb db : Nat} {a b c d : Int} {D : Dn} (h : DeedX w B mb db a b c d D) {M' : Me} (e : w'.heap[db]? = w.heap[db]?) (o : OwnedAt w' B mb a b c M') : DeedX w' B mb db a b c d ⟨M', D.h, D.v⟩ :=
  ⟨h.d0, e.trans h.e, o⟩
theorem DeedX.inX {w w' : World} {B mb db g : Nat} {a b c d : Int} {tv : Value} {D : Dn} (h : DeedX w B mb db a b c d D) {M' : Me} (hx : InX B mb a b c tv g M' w w') : DeedX w' B mb db a b c d ⟨M', D.h, D.v⟩ := by
  obtain ⟨V, ho, hk⟩ := hx
  exact h.mem (hk.keeps db _ _ h.e (by decide)) ho.own
theorem DeedX.cells {w : World} {B mb db : Nat} {a b c d : Int} {D : Dn} (h : DeedX w B mb db a b c d D) :
    w.cell? ⟨db, 0, none⟩ = some (ptrV mb) ∧ w.cell? ⟨db, 1, none⟩ = some (.int .i64 d) ∧ w.cell? ⟨db, 2, none⟩ = some (.int .i64 D.h.pos) ∧ w.cell? ⟨db, 3, none⟩ = some (.int .i64 D.h.call.code) ∧ w.cell? ⟨db, 4, none⟩ = some (.int .i64 D.h.call.a) ∧ w.cell? ⟨db, 5, none⟩ = some (.int .i64 D.h.call.b) ∧ w.cell? ⟨db, 6, none⟩ = some (.int .i64 D.h.call.c) ∧ w.cell? ⟨db, 7, none⟩ = some (.int .i64 D.h.tim) ∧ w.cell? ⟨db, 8, none⟩ = some (.int .i64 D.h.whe) ∧ ∀ o, w.frozen? ⟨db, o, none⟩ = false := by
  have h0 := h.e
  exact ⟨cell_of_block h0 0, cell_of_block h0 1, cell_of_block h0 2, cell_of_block h0 3, cell_of_block h0 4, cell_of_block h0 5, cell_of_block h0 6, cell_of_block h0 7, cell_of_block h0 8, fun o => unfrozen_of_block h0 o⟩
/-- one number of the hand is stored -/
theorem DeedX.setPos {w : World} {B mb db : Nat} {a b c d : Int} {D : Dn} (h : DeedX w B mb db a b c d D) (x : Int) : DeedX (w.setCell ⟨db, 2, none⟩ (.int .i64 x)) B mb db a b c d ⟨D.m, { D.h with pos := x }, D.v⟩ :=
  h.put (heap_set1 w db _ _) (block_setCell h.e (i := 2) _)
theorem DeedX.setTim {w : World} {B mb db : Nat} {a b c d : Int} {D : Dn} (h : DeedX w B mb db a b c d D) (x : Int) : DeedX (w.setCell ⟨db, 7, none⟩ (.int .i64 x)) B mb db a b c d ⟨D.m, { D.h with tim := x }, D.v⟩ :=
  h.put (heap_set1 w db _ _) (block_setCell h.e (i := 7) _)
/-- cells in the middle of a block are stored at once -/
theorem heap_setCells_in {w : World} {b o : Nat} {t : TypeId} {C : Array Value} {pre mid post : List Value} (vs : List Value) (h : w.heap[b]? = some (.cells C t (0, 0))) (hc : C.toList = pre ++ mid ++ post) (ho : o = pre.length) (hl : mid.length = vs.length) :
    (w.setCells b o vs).heap[b]? = some (.cells (pre ++ vs ++ post).toArray t (0, 0)) := by
  subst ho
  have hC : C = (pre ++ (mid ++ post)).toArray := by rw [← List.append_assoc, ← hc]
  subst hC
  clear hc
  induction vs generalizing w pre mid with
  | nil =>
    have : mid = [] := List.eq_nil_of_length_eq_zero (by simpa using hl)
    subst this
    simpa [World.setCells] using h
  | cons v r ih =>
    cases mid with
    | nil => simp at hl
    | cons p ps =>
      have h1 := block_setCell (i := pre.length) h v
      have e : (pre ++ (p :: ps ++ post)).toArray.setIfInBounds pre.length v = ((pre ++ [v]) ++ (ps ++ post)).toArray := by simp
      rw [e] at h1
      have h2 := ih (w := w.setCell ⟨b, pre.length, none⟩ v) (pre := pre ++ [v]) (mid := ps) (by simpa using hl) h1
      rw [World.setCells]
      simpa using h2
theorem heap_setCells_nd {b x : Nat} (hx : x ≠ b) : ∀ (vs : List Value) (o : Nat) (w : World), (w.setCells b o vs).heap[x]? = w.heap[x]?
  | [], _, _ => rfl
  | v :: r, o, w => by rw [World.setCells, heap_setCells_nd hx r]; exact heap_set1 w b _ _ x hx
/-- the hand is stored, and what is told -/
theorem DeedX.setHand {w : World} {B mb db : Nat} {a b c d : Int} {D : Dn} (h : DeedX w B mb db a b c d D) (x : Hd) : DeedX (w.setCells db 2 (hdCells x).toList) B mb db a b c d ⟨D.m, x, D.v⟩ :=
  h.put (fun y hy => heap_setCells_nd hy _ _ _) (heap_setCells_in (pre := [_, _]) (mid := [_, _, _, _, _, _, _, _, _, _, _, _]) (post := [_, _, _, _, _]) (hdCells x).toList h.e rfl rfl rfl)
theorem DeedX.setEv {w : World} {B mb db : Nat} {a b c d : Int} {D : Dn} (h : DeedX w B mb db a b c d D) (x : Et) : DeedX (w.setCells db 14 [.int .i64 x.kin, .int .i64 x.tim, .int .i64 x.gen, .int .i64 x.whe, .int .i64 x.clk]) B mb db a b c d ⟨D.m, D.h, x⟩ :=
  h.put (fun y hy => heap_setCells_nd hy _ _ _) (heap_setCells_in (pre := [_, _, _, _, _, _, _, _, _, _, _, _, _, _]) (mid := [_, _, _, _, _]) (post := []) [.int .i64 x.kin, .int .i64 x.tim, .int .i64 x.gen, .int .i64 x.whe, .int .i64 x.clk] h.e rfl rfl rfl)
theorem Wd.setDs {B mb db : Nat} {x y z d : Int} {D : Dn} {a w : World} (h : Wd B a w) (ho : DeedX w B mb db x y z d D) (o : Nat) (us : List Value) : Wd B a (w.setCells db o us) := by
  exact ⟨b_setCells ho.d0 us o h.below, keeps_setCells (by decide) us o h.keeps ho.e⟩

set_option maxHeartbeats 400000 in
theorem homeP_any (a b c n : Int) (w : World) (h1 : 1 ≤ a) (h2 : a ≤ 6) (h3 : 0 ≤ n) (h4 : n ≤ 7) :
    Calls Tryz.prog 79 #[.agg #[.int .i64 a, .int .i64 b, .int .i64 c], .int .i64 n] w fun e w' => e = .returned (.int .i64 (n % a)) ∧ Below w.heap.size w w' := by
  go_enter Tryz.func79, Tryz.ntmps79
  go_wp2
  go_ret
  exact ⟨rfl, (Below.refl _ _).alloc (Nat.le_refl _) _⟩

theorem homeN_int {a b c d : Int} (hw : workB a b c d = true) : (1 ≤ a ∧ a ≤ 6 ∧ 0 ≤ d ∧ d ≤ 7) ∧ d % a = ((homeN a d : Nat) : Int) ∧ (homeN a d : Int) < a := by
  obtain ⟨hp, n1, n2⟩ := workB_iff.1 hw
  obtain ⟨⟨a1, a2⟩, ⟨b1, b2⟩, _⟩ := planB_iff.1 hp
  have h0 := Int.emod_nonneg d (b := a) (by omega)
  have h1 := Int.emod_lt_of_pos d (b := a) (by omega)
  refine ⟨⟨a1, a2, n1, by omega⟩, ?_, ?_⟩
  · unfold homeN; omega
  · unfold homeN; omega

set_option maxRecDepth 100000 in
set_option maxHeartbeats 1000000 in
theorem homeD_any {w : World} {B mb db : Nat} {a b c d : Int} {D : Dn} (hw : workB a b c d = true) (h : DeedX w B mb db a b c d D) :
    Calls Tryz.prog 50 #[ptrV db] w fun e w' => e = .returned (.int .i64 ((homeN a d : Nat) : Int)) ∧ Below w.heap.size w w' := by
  obtain ⟨⟨a1, a2, n1, n2⟩, hh, _⟩ := homeN_int hw
  obtain ⟨d0, d1, _, _, _, _, _, _, _, _⟩ := h.cells
  obtain ⟨tv, g, V, ho⟩ := h.o.opened
  obtain ⟨m0, m1, m2, m3, m4, m5⟩ := six ho.m
  clear h ho
  rw [← hh]
  clear hh hw
  go_enter Tryz.func50, Tryz.ntmps50
  go_upto_region 1 with fail
  go_still_tail 11, (by kernel_rfl)
  change wpList _ _ _ _ _ w.drew
  have k0 := (Below.refl w.heap.size w).drew
  generalize w.drew = w2 at k0 ⊢
  go_wp2_with (go_at_call 79; refine (homeP_any _ _ _ _ _ a1 a2 n1 n2).mono ?_; rintro e w1 ⟨rfl, hb⟩)
  go_ret
  exact ⟨rfl, k0.trans (hb.mono k0.size)⟩

/-! ### a lock is taken, is left -/
set_option maxRecDepth 100000 in
set_option maxHeartbeats 1000000 in
theorem take_yes {w : World} {g o : Nat} (d : Int) (hc : w.cell? ⟨g, o, none⟩ = some (.int .i64 (-1))) (hf : w.frozen? ⟨g, o, none⟩ = false) :
    Calls Tryz.prog 78 #[.pointer (some ⟨g, o, none⟩), .int .i64 d] w fun e w' => e = .returned (.bool true) ∧ ∃ w1, Below w.heap.size w w1 ∧ w' = w1.setCell ⟨g, o, none⟩ (.int .i64 d) := by
  have lt : g < w.heap.size := World.block_lt_of_cell? w _ hc
  go_enter Tryz.func78, Tryz.ntmps78
  go_wp2_with (go_at_call 106; refine (free_any _ _).mono ?_; rintro e w1 ⟨rfl, hb⟩; have hc1 := (hb.cell (p := ⟨g, o, none⟩) lt).trans hc; have hf1 := ((bcell hb).2 g o lt).trans hf)
  go_ret
  exact ⟨rfl, w1, hb, rfl⟩

set_option maxRecDepth 100000 in
set_option maxHeartbeats 1000000 in
theorem take_no {w : World} {g o : Nat} {l : Int} (d : Int) (hl : ¬ l = -1) (hc : w.cell? ⟨g, o, none⟩ = some (.int .i64 l)) (hf : w.frozen? ⟨g, o, none⟩ = false) :
    Calls Tryz.prog 78 #[.pointer (some ⟨g, o, none⟩), .int .i64 d] w fun e w' => e = .returned (.bool false) ∧ Below w.heap.size w w' := by
  have lt : g < w.heap.size := World.block_lt_of_cell? w _ hc
  have h1 : (l == -1) = false := by simpa using hl
  go_enter Tryz.func78, Tryz.ntmps78
  go_wp2_with (go_at_call 106; refine (free_any _ _).mono ?_; rintro e w1 ⟨rfl, hb⟩)
  go_ret
  exact ⟨rfl, hb⟩

set_option maxRecDepth 100000 in
set_option maxHeartbeats 1000000 in
theorem leave_yes {w : World} {g o : Nat} (d : Int) (hc : w.cell? ⟨g, o, none⟩ = some (.int .i64 d)) (hf : w.frozen? ⟨g, o, none⟩ = false) :
    Calls Tryz.prog 83 #[.pointer (some ⟨g, o, none⟩), .int .i64 d] w fun e w' => e = .returned (.tuple #[]) ∧ w' = w.setCell ⟨g, o, none⟩ (.int .i64 (-1)) := by
  go_enter Tryz.func83, Tryz.ntmps83
  go_wp2
  go_end0
  exact ⟨rfl, rfl⟩

set_option maxRecDepth 100000 in
set_option maxHeartbeats 1000000 in
theorem leave_no {w : World} {g o : Nat} {l : Int} (d : Int) (hl : ¬ l = d) (hc : w.cell? ⟨g, o, none⟩ = some (.int .i64 l)) (hf : w.frozen? ⟨g, o, none⟩ = false) :
    Calls Tryz.prog 83 #[.pointer (some ⟨g, o, none⟩), .int .i64 d] w fun e w' => e = .returned (.tuple #[]) ∧ w' = w := by
  have h1 : (l == d) = false := by simpa using hl
  go_enter Tryz.func83, Tryz.ntmps83
  go_wp2
  go_end0
  exact ⟨rfl, rfl⟩

end Go.Proofs.YtflekodaiejflaaGreat

/-
  Calls, in the program: what its code names, and what is not named is nought.
-/
namespace Go.Proofs.YtflekodaiejflaaGreat
open Go.RowKit Go.Joins
set_option linter.unusedVariables false
set_option linter.unusedSimpArgs false

/-- there may be such a timer -/
def mayB (a b c t : Int) : Bool := planB a b c && inB t 0 (c - 1)
def imNamedB (a b c : Int) (q : Ca) : Bool :=
  if q.code = 1 then inB q.a 0 1 && (inB q.b 0 1000000000 && inB q.c 0 1000000000) else
  if q.code = 2 then mayB a b c q.a else
  if q.code = 3 then mayB a b c q.a && inB q.b 0 1000000000 else
  if q.code = 4 then procB a b c q.a else
  if q.code = 5 then procB a b c q.a && (procB a b c q.b && q.a != q.b) else
  if q.code = 6 then mayB a b c q.a else false
def imRestB (q : Ca) : Bool :=
  if q.code = 2 ∨ q.code = 4 ∨ q.code = 6 then q.b == 0 && q.c == 0 else if q.code = 3 ∨ q.code = 5 then q.c == 0 else true
theorem im_named {a b c : Int} {q : Ca} (h : planB a b c = true) : (imNamedB a b c q && imRestB q) = callB a b c q := by
  obtain ⟨k, x, y, z⟩ := q
  simp only [callB, h, imNamedB, imRestB, namedB, mayB, Bool.true_and]
  by_cases c1 : k = 1
  · subst c1; simp
  by_cases c2 : k = 2
  · subst c2; simp
  by_cases c3 : k = 3
  · subst c3; simp [Bool.and_assoc]
  by_cases c4 : k = 4
  · subst c4; simp
  by_cases c5 : k = 5
  · subst c5; simp [Bool.and_assoc]
  by_cases c6 : k = 6
  · subst c6; simp
  simp [c1, c2, c3, c4, c5, c6]

set_option maxHeartbeats 400000 in
theorem mayHave_any (a b c n : Int) (w : World) :
    Calls Tryz.prog 132 #[.agg #[.int .i64 a, .int .i64 b, .int .i64 c], .int .i64 n] w fun e w' => e = .returned (.bool (mayB a b c n)) ∧ Below w.heap.size w w' := by
  have k0 := (Below.refl w.heap.size w).alloc (Nat.le_refl _) (.cells #[.int .i64 a, .int .i64 b, .int .i64 c] 46)
  have kk := Below.refl (w.alloc (.cells #[.int .i64 a, .int .i64 b, .int .i64 c] 46)).heap.size (w.alloc (.cells #[.int .i64 a, .int .i64 b, .int .i64 c] 46))
  cases h1 : planB a b c
  · skip
    rw [show mayB a b c n = false by simp [mayB, h1]]
    go_enter Tryz.func132, Tryz.ntmps132
    go_wp2_with (first
      | (go_at_call 117; refine (right_any _ _ _ _).mono ?_; rintro e w1 ⟨rfl, hb⟩; replace kk := kk.trans (hb.mono kk.size); clear hb; (try clear hc hf); obtain ⟨hc, hf⟩ := bcell kk)
      | (go_at_call 121; refine (within_any _ _ _ _).mono ?_; rintro e w' ⟨rfl, rfl⟩))
    go_ret
    exact ⟨ret_bool' (by simp), k0.trans (kk.mono k0.size)⟩
  obtain ⟨⟨b2, b3⟩, ⟨b5, b6⟩, b1, b4⟩ := planB_iff.1 h1
  go_enter Tryz.func132, Tryz.ntmps132
  go_wp2_with (first
    | (go_at_call 117; refine (right_any _ _ _ _).mono ?_; rintro e w1 ⟨rfl, hb⟩; replace kk := kk.trans (hb.mono kk.size); clear hb; (try clear hc hf); obtain ⟨hc, hf⟩ := bcell kk)
    | (go_at_call 121; refine (within_any _ _ _ _).mono ?_; rintro e w' ⟨rfl, rfl⟩))
  go_ret
  exact ⟨ret_bool' (by simp [mayB, h1]), k0.trans (kk.mono k0.size)⟩

set_option maxRecDepth 100000 in
set_option maxHeartbeats 4000000 in
theorem named_four (a b c k x y z : Int) (w : World) :
    Calls Tryz.prog 149 #[.agg #[.int .i64 k, .int .i64 x, .int .i64 y, .int .i64 z], .agg #[.int .i64 a, .int .i64 b, .int .i64 c]] w fun e w' => e = .returned (.bool (imNamedB a b c ⟨k, x, y, z⟩)) ∧ Below w.heap.size w w' := by
  have k0 := ((Below.refl w.heap.size w).alloc (Nat.le_refl _) (.cells #[.int .i64 k, .int .i64 x, .int .i64 y, .int .i64 z] 37)).alloc (by simp) (.cells #[.int .i64 a, .int .i64 b, .int .i64 c] 46)
  have kk := Below.refl ((w.alloc (.cells #[.int .i64 k, .int .i64 x, .int .i64 y, .int .i64 z] 37)).alloc (.cells #[.int .i64 a, .int .i64 b, .int .i64 c] 46)).heap.size ((w.alloc (.cells #[.int .i64 k, .int .i64 x, .int .i64 y, .int .i64 z] 37)).alloc (.cells #[.int .i64 a, .int .i64 b, .int .i64 c] 46))
  by_cases c1 : k = 1
  case pos =>
    subst c1
    cases h2 : inB x 0 1
    · skip
      rw [show imNamedB a b c ⟨1, x, y, z⟩ = false by simp [imNamedB, h2]]
      go_enter Tryz.func149, Tryz.ntmps149
      go_wp2_with (first
        | (go_at_call 132; refine (mayHave_any _ _ _ _ _).mono ?_; rintro e w1 ⟨rfl, hb⟩; replace kk := kk.trans (hb.mono kk.size); clear hb; (try clear hc hf); obtain ⟨hc, hf⟩ := bcell kk)
        | (go_at_call 153; refine (hasProc_any _ _ _ _ _).mono ?_; rintro e w1 ⟨rfl, hb⟩; replace kk := kk.trans (hb.mono kk.size); clear hb; (try clear hc hf); obtain ⟨hc, hf⟩ := bcell kk)
        | (go_at_call 121; refine (within_any _ _ _ _).mono ?_; rintro e w' ⟨rfl, rfl⟩)
        | (go_at_call 105; refine (isTime_any _ _).mono ?_; rintro e w' ⟨rfl, rfl⟩))
      go_ret
      exact ⟨ret_bool' (by simp), k0.trans (kk.mono k0.size)⟩
    cases h3 : inB y 0 1000000000
    · skip
      rw [show imNamedB a b c ⟨1, x, y, z⟩ = false by simp [imNamedB, h2, h3]]
      go_enter Tryz.func149, Tryz.ntmps149
      go_wp2_with (first
        | (go_at_call 132; refine (mayHave_any _ _ _ _ _).mono ?_; rintro e w1 ⟨rfl, hb⟩; replace kk := kk.trans (hb.mono kk.size); clear hb; (try clear hc hf); obtain ⟨hc, hf⟩ := bcell kk)
        | (go_at_call 153; refine (hasProc_any _ _ _ _ _).mono ?_; rintro e w1 ⟨rfl, hb⟩; replace kk := kk.trans (hb.mono kk.size); clear hb; (try clear hc hf); obtain ⟨hc, hf⟩ := bcell kk)
        | (go_at_call 121; refine (within_any _ _ _ _).mono ?_; rintro e w' ⟨rfl, rfl⟩)
        | (go_at_call 105; refine (isTime_any _ _).mono ?_; rintro e w' ⟨rfl, rfl⟩))
      go_ret
      exact ⟨ret_bool' (by simp), k0.trans (kk.mono k0.size)⟩
    go_enter Tryz.func149, Tryz.ntmps149
    go_wp2_with (first
      | (go_at_call 132; refine (mayHave_any _ _ _ _ _).mono ?_; rintro e w1 ⟨rfl, hb⟩; replace kk := kk.trans (hb.mono kk.size); clear hb; (try clear hc hf); obtain ⟨hc, hf⟩ := bcell kk)
      | (go_at_call 153; refine (hasProc_any _ _ _ _ _).mono ?_; rintro e w1 ⟨rfl, hb⟩; replace kk := kk.trans (hb.mono kk.size); clear hb; (try clear hc hf); obtain ⟨hc, hf⟩ := bcell kk)
      | (go_at_call 121; refine (within_any _ _ _ _).mono ?_; rintro e w' ⟨rfl, rfl⟩)
      | (go_at_call 105; refine (isTime_any _ _).mono ?_; rintro e w' ⟨rfl, rfl⟩))
    go_ret
    exact ⟨ret_bool' (by simp [imNamedB, h2, h3]), k0.trans (kk.mono k0.size)⟩
  by_cases c2 : k = 2
  case pos =>
    subst c2
    go_enter Tryz.func149, Tryz.ntmps149
    go_wp2_with (first
      | (go_at_call 132; refine (mayHave_any _ _ _ _ _).mono ?_; rintro e w1 ⟨rfl, hb⟩; replace kk := kk.trans (hb.mono kk.size); clear hb; (try clear hc hf); obtain ⟨hc, hf⟩ := bcell kk)
      | (go_at_call 153; refine (hasProc_any _ _ _ _ _).mono ?_; rintro e w1 ⟨rfl, hb⟩; replace kk := kk.trans (hb.mono kk.size); clear hb; (try clear hc hf); obtain ⟨hc, hf⟩ := bcell kk)
      | (go_at_call 121; refine (within_any _ _ _ _).mono ?_; rintro e w' ⟨rfl, rfl⟩)
      | (go_at_call 105; refine (isTime_any _ _).mono ?_; rintro e w' ⟨rfl, rfl⟩))
    go_ret
    exact ⟨ret_bool' (by simp [imNamedB]), k0.trans (kk.mono k0.size)⟩
  by_cases c3 : k = 3
  case pos =>
    subst c3
    cases h2 : mayB a b c x
    · skip
      rw [show imNamedB a b c ⟨3, x, y, z⟩ = false by simp [imNamedB, h2]]
      go_enter Tryz.func149, Tryz.ntmps149
      go_wp2_with (first
        | (go_at_call 132; refine (mayHave_any _ _ _ _ _).mono ?_; rintro e w1 ⟨rfl, hb⟩; replace kk := kk.trans (hb.mono kk.size); clear hb; (try clear hc hf); obtain ⟨hc, hf⟩ := bcell kk)
        | (go_at_call 153; refine (hasProc_any _ _ _ _ _).mono ?_; rintro e w1 ⟨rfl, hb⟩; replace kk := kk.trans (hb.mono kk.size); clear hb; (try clear hc hf); obtain ⟨hc, hf⟩ := bcell kk)
        | (go_at_call 121; refine (within_any _ _ _ _).mono ?_; rintro e w' ⟨rfl, rfl⟩)
        | (go_at_call 105; refine (isTime_any _ _).mono ?_; rintro e w' ⟨rfl, rfl⟩))
      go_ret
      exact ⟨ret_bool' (by simp), k0.trans (kk.mono k0.size)⟩
    go_enter Tryz.func149, Tryz.ntmps149
    go_wp2_with (first
      | (go_at_call 132; refine (mayHave_any _ _ _ _ _).mono ?_; rintro e w1 ⟨rfl, hb⟩; replace kk := kk.trans (hb.mono kk.size); clear hb; (try clear hc hf); obtain ⟨hc, hf⟩ := bcell kk)
      | (go_at_call 153; refine (hasProc_any _ _ _ _ _).mono ?_; rintro e w1 ⟨rfl, hb⟩; replace kk := kk.trans (hb.mono kk.size); clear hb; (try clear hc hf); obtain ⟨hc, hf⟩ := bcell kk)
      | (go_at_call 121; refine (within_any _ _ _ _).mono ?_; rintro e w' ⟨rfl, rfl⟩)
      | (go_at_call 105; refine (isTime_any _ _).mono ?_; rintro e w' ⟨rfl, rfl⟩))
    go_ret
    exact ⟨ret_bool' (by simp [imNamedB, h2]), k0.trans (kk.mono k0.size)⟩
  by_cases c4 : k = 4
  case pos =>
    subst c4
    go_enter Tryz.func149, Tryz.ntmps149
    go_wp2_with (first
      | (go_at_call 132; refine (mayHave_any _ _ _ _ _).mono ?_; rintro e w1 ⟨rfl, hb⟩; replace kk := kk.trans (hb.mono kk.size); clear hb; (try clear hc hf); obtain ⟨hc, hf⟩ := bcell kk)
      | (go_at_call 153; refine (hasProc_any _ _ _ _ _).mono ?_; rintro e w1 ⟨rfl, hb⟩; replace kk := kk.trans (hb.mono kk.size); clear hb; (try clear hc hf); obtain ⟨hc, hf⟩ := bcell kk)
      | (go_at_call 121; refine (within_any _ _ _ _).mono ?_; rintro e w' ⟨rfl, rfl⟩)
      | (go_at_call 105; refine (isTime_any _ _).mono ?_; rintro e w' ⟨rfl, rfl⟩))
    go_ret
    exact ⟨ret_bool' (by simp [imNamedB]), k0.trans (kk.mono k0.size)⟩
  by_cases c5 : k = 5
  case pos =>
    subst c5
    cases h2 : procB a b c x
    · skip
      rw [show imNamedB a b c ⟨5, x, y, z⟩ = false by simp [imNamedB, h2]]
      go_enter Tryz.func149, Tryz.ntmps149
      go_wp2_with (first
        | (go_at_call 132; refine (mayHave_any _ _ _ _ _).mono ?_; rintro e w1 ⟨rfl, hb⟩; replace kk := kk.trans (hb.mono kk.size); clear hb; (try clear hc hf); obtain ⟨hc, hf⟩ := bcell kk)
        | (go_at_call 153; refine (hasProc_any _ _ _ _ _).mono ?_; rintro e w1 ⟨rfl, hb⟩; replace kk := kk.trans (hb.mono kk.size); clear hb; (try clear hc hf); obtain ⟨hc, hf⟩ := bcell kk)
        | (go_at_call 121; refine (within_any _ _ _ _).mono ?_; rintro e w' ⟨rfl, rfl⟩)
        | (go_at_call 105; refine (isTime_any _ _).mono ?_; rintro e w' ⟨rfl, rfl⟩))
      go_ret
      exact ⟨ret_bool' (by simp), k0.trans (kk.mono k0.size)⟩
    cases h3 : procB a b c y
    · skip
      rw [show imNamedB a b c ⟨5, x, y, z⟩ = false by simp [imNamedB, h2, h3]]
      go_enter Tryz.func149, Tryz.ntmps149
      go_wp2_with (first
        | (go_at_call 132; refine (mayHave_any _ _ _ _ _).mono ?_; rintro e w1 ⟨rfl, hb⟩; replace kk := kk.trans (hb.mono kk.size); clear hb; (try clear hc hf); obtain ⟨hc, hf⟩ := bcell kk)
        | (go_at_call 153; refine (hasProc_any _ _ _ _ _).mono ?_; rintro e w1 ⟨rfl, hb⟩; replace kk := kk.trans (hb.mono kk.size); clear hb; (try clear hc hf); obtain ⟨hc, hf⟩ := bcell kk)
        | (go_at_call 121; refine (within_any _ _ _ _).mono ?_; rintro e w' ⟨rfl, rfl⟩)
        | (go_at_call 105; refine (isTime_any _ _).mono ?_; rintro e w' ⟨rfl, rfl⟩))
      go_ret
      exact ⟨ret_bool' (by simp), k0.trans (kk.mono k0.size)⟩
    go_enter Tryz.func149, Tryz.ntmps149
    go_wp2_with (first
      | (go_at_call 132; refine (mayHave_any _ _ _ _ _).mono ?_; rintro e w1 ⟨rfl, hb⟩; replace kk := kk.trans (hb.mono kk.size); clear hb; (try clear hc hf); obtain ⟨hc, hf⟩ := bcell kk)
      | (go_at_call 153; refine (hasProc_any _ _ _ _ _).mono ?_; rintro e w1 ⟨rfl, hb⟩; replace kk := kk.trans (hb.mono kk.size); clear hb; (try clear hc hf); obtain ⟨hc, hf⟩ := bcell kk)
      | (go_at_call 121; refine (within_any _ _ _ _).mono ?_; rintro e w' ⟨rfl, rfl⟩)
      | (go_at_call 105; refine (isTime_any _ _).mono ?_; rintro e w' ⟨rfl, rfl⟩))
    go_ret
    exact ⟨ret_bool' (by simp [imNamedB, h2, h3]), k0.trans (kk.mono k0.size)⟩
  by_cases c6 : k = 6
  case pos =>
    subst c6
    go_enter Tryz.func149, Tryz.ntmps149
    go_wp2_with (first
      | (go_at_call 132; refine (mayHave_any _ _ _ _ _).mono ?_; rintro e w1 ⟨rfl, hb⟩; replace kk := kk.trans (hb.mono kk.size); clear hb; (try clear hc hf); obtain ⟨hc, hf⟩ := bcell kk)
      | (go_at_call 153; refine (hasProc_any _ _ _ _ _).mono ?_; rintro e w1 ⟨rfl, hb⟩; replace kk := kk.trans (hb.mono kk.size); clear hb; (try clear hc hf); obtain ⟨hc, hf⟩ := bcell kk)
      | (go_at_call 121; refine (within_any _ _ _ _).mono ?_; rintro e w' ⟨rfl, rfl⟩)
      | (go_at_call 105; refine (isTime_any _ _).mono ?_; rintro e w' ⟨rfl, rfl⟩))
    go_ret
    exact ⟨ret_bool' (by simp [imNamedB]), k0.trans (kk.mono k0.size)⟩
  have c1b : (k == 1) = false := by simpa using c1
  have c2b : (k == 2) = false := by simpa using c2
  have c3b : (k == 3) = false := by simpa using c3
  have c4b : (k == 4) = false := by simpa using c4
  have c5b : (k == 5) = false := by simpa using c5
  have c6b : (k == 6) = false := by simpa using c6
  rw [show imNamedB a b c ⟨k, x, y, z⟩ = false by simp [imNamedB, c1, c2, c3, c4, c5, c6]]
  go_enter Tryz.func149, Tryz.ntmps149
  go_wp2_with (first
    | (go_at_call 132; refine (mayHave_any _ _ _ _ _).mono ?_; rintro e w1 ⟨rfl, hb⟩; replace kk := kk.trans (hb.mono kk.size); clear hb; (try clear hc hf); obtain ⟨hc, hf⟩ := bcell kk)
    | (go_at_call 153; refine (hasProc_any _ _ _ _ _).mono ?_; rintro e w1 ⟨rfl, hb⟩; replace kk := kk.trans (hb.mono kk.size); clear hb; (try clear hc hf); obtain ⟨hc, hf⟩ := bcell kk)
    | (go_at_call 121; refine (within_any _ _ _ _).mono ?_; rintro e w' ⟨rfl, rfl⟩)
    | (go_at_call 105; refine (isTime_any _ _).mono ?_; rintro e w' ⟨rfl, rfl⟩))
  go_ret
  exact ⟨ret_bool' (by simp), k0.trans (kk.mono k0.size)⟩

set_option maxRecDepth 100000 in
set_option maxHeartbeats 4000000 in
theorem restZero_four (k x y z : Int) (w : World) :
    Calls Tryz.prog 150 #[.agg #[.int .i64 k, .int .i64 x, .int .i64 y, .int .i64 z]] w fun e w' => e = .returned (.bool (imRestB ⟨k, x, y, z⟩)) ∧ Below w.heap.size w w' := by
  have k0 := (Below.refl w.heap.size w).alloc (Nat.le_refl _) (.cells #[.int .i64 k, .int .i64 x, .int .i64 y, .int .i64 z] 37)
  by_cases c2 : k = 2
  case pos =>
    subst c2
    by_cases h1 : y = 0
    case neg =>
      have h1b : (y == 0) = false := by simpa using h1
      have h1c : (y != 0) = true := by simpa using h1
      rw [show imRestB ⟨2, x, y, z⟩ = false by simp [imRestB, h1]]
      go_enter Tryz.func150, Tryz.ntmps150
      go_wp2
      go_ret
      exact ⟨ret_bool' (by simp), k0⟩
    subst h1
    go_enter Tryz.func150, Tryz.ntmps150
    go_wp2
    go_ret
    exact ⟨ret_bool' (by simp [imRestB]), k0⟩
  by_cases c3 : k = 3
  case pos =>
    subst c3
    go_enter Tryz.func150, Tryz.ntmps150
    go_wp2
    go_ret
    exact ⟨ret_bool' (by simp [imRestB]), k0⟩
  by_cases c4 : k = 4
  case pos =>
    subst c4
    by_cases h1 : y = 0
    case neg =>
      have h1b : (y == 0) = false := by simpa using h1
      have h1c : (y != 0) = true := by simpa using h1
      rw [show imRestB ⟨4, x, y, z⟩ = false by simp [imRestB, h1]]
      go_enter Tryz.func150, Tryz.ntmps150
      go_wp2
      go_ret
      exact ⟨ret_bool' (by simp), k0⟩
    subst h1
    go_enter Tryz.func150, Tryz.ntmps150
    go_wp2
    go_ret
    exact ⟨ret_bool' (by simp [imRestB]), k0⟩
  by_cases c5 : k = 5
  case pos =>
    subst c5
    go_enter Tryz.func150, Tryz.ntmps150
    go_wp2
    go_ret
    exact ⟨ret_bool' (by simp [imRestB]), k0⟩
  by_cases c6 : k = 6
  case pos =>
    subst c6
    by_cases h1 : y = 0
    case neg =>
      have h1b : (y == 0) = false := by simpa using h1
      have h1c : (y != 0) = true := by simpa using h1
      rw [show imRestB ⟨6, x, y, z⟩ = false by simp [imRestB, h1]]
      go_enter Tryz.func150, Tryz.ntmps150
      go_wp2
      go_ret
      exact ⟨ret_bool' (by simp), k0⟩
    subst h1
    go_enter Tryz.func150, Tryz.ntmps150
    go_wp2
    go_ret
    exact ⟨ret_bool' (by simp [imRestB]), k0⟩
  have c2b : (k == 2) = false := by simpa using c2
  have c3b : (k == 3) = false := by simpa using c3
  have c4b : (k == 4) = false := by simpa using c4
  have c5b : (k == 5) = false := by simpa using c5
  have c6b : (k == 6) = false := by simpa using c6
  rw [show imRestB ⟨k, x, y, z⟩ = true by simp [imRestB, c2, c3, c4, c5, c6]]
  go_enter Tryz.func150, Tryz.ntmps150
  go_wp2
  go_ret
  exact ⟨ret_bool' (by simp), k0⟩

set_option maxRecDepth 100000 in
set_option maxHeartbeats 1000000 in
theorem rightInC_four (a b c k x y z : Int) (w : World) :
    Calls Tryz.prog 134 #[.agg #[.int .i64 k, .int .i64 x, .int .i64 y, .int .i64 z], .agg #[.int .i64 a, .int .i64 b, .int .i64 c]] w fun e w' => e = .returned (.bool (imNamedB a b c ⟨k, x, y, z⟩ && imRestB ⟨k, x, y, z⟩)) ∧ Below w.heap.size w w' := by
  have k0 := ((Below.refl w.heap.size w).alloc (Nat.le_refl _) (.cells #[.int .i64 k, .int .i64 x, .int .i64 y, .int .i64 z] 37)).alloc (by simp) (.cells #[.int .i64 a, .int .i64 b, .int .i64 c] 46)
  have kk := Below.refl ((w.alloc (.cells #[.int .i64 k, .int .i64 x, .int .i64 y, .int .i64 z] 37)).alloc (.cells #[.int .i64 a, .int .i64 b, .int .i64 c] 46)).heap.size ((w.alloc (.cells #[.int .i64 k, .int .i64 x, .int .i64 y, .int .i64 z] 37)).alloc (.cells #[.int .i64 a, .int .i64 b, .int .i64 c] 46))
  cases h1 : imNamedB a b c ⟨k, x, y, z⟩
  · skip
    go_enter Tryz.func134, Tryz.ntmps134
    go_wp2_with (first
      | (go_at_call 149; refine (named_four _ _ _ _ _ _ _ _).mono ?_; rintro e w1 ⟨rfl, hb⟩; replace kk := kk.trans (hb.mono kk.size); clear hb; (try clear hc hf); obtain ⟨hc, hf⟩ := bcell kk)
      | (go_at_call 150; refine (restZero_four _ _ _ _ _).mono ?_; rintro e w1 ⟨rfl, hb⟩; replace kk := kk.trans (hb.mono kk.size); clear hb; (try clear hc hf); obtain ⟨hc, hf⟩ := bcell kk))
    go_ret
    exact ⟨ret_bool' (by simp []), k0.trans (kk.mono k0.size)⟩
  go_enter Tryz.func134, Tryz.ntmps134
  go_wp2_with (first
    | (go_at_call 149; refine (named_four _ _ _ _ _ _ _ _).mono ?_; rintro e w1 ⟨rfl, hb⟩; replace kk := kk.trans (hb.mono kk.size); clear hb; (try clear hc hf); obtain ⟨hc, hf⟩ := bcell kk)
    | (go_at_call 150; refine (restZero_four _ _ _ _ _).mono ?_; rintro e w1 ⟨rfl, hb⟩; replace kk := kk.trans (hb.mono kk.size); clear hb; (try clear hc hf); obtain ⟨hc, hf⟩ := bcell kk))
  go_ret
  exact ⟨ret_bool' (by simp []), k0.trans (kk.mono k0.size)⟩

end Go.Proofs.YtflekodaiejflaaGreat

/-
  Hands, in the program.
-/
namespace Go.Proofs.YtflekodaiejflaaGreat
open Go.RowKit Go.Joins
set_option linter.unusedVariables false
set_option linter.unusedSimpArgs false

set_option maxRecDepth 100000 in
set_option maxHeartbeats 400000 in
theorem imNewHand_any (w : World) : Calls Tryz.prog 122 #[] w fun e w' => e = .returned (hdV newHd) ∧ Below w.heap.size w w' := by
  go_enter Tryz.func122, Tryz.ntmps122
  go_wp2
  exact bodyPost_ret (v := hdV newHd) (by simp [results, Tryz.results122, go_sem, newHd, ca0]) rfl ⟨rfl, by first | exact Below.refl _ _ | exact (Below.refl _ _).alloc (Nat.le_refl _) _ | exact ((Below.refl _ _).alloc (Nat.le_refl _) _).alloc (by simp) _⟩

set_option maxRecDepth 100000 in
set_option maxHeartbeats 1000000 in
theorem imResting_any (r o : Int) (w : World) : Calls Tryz.prog 104 #[.int .i64 r, .int .i64 o] w fun e w' => e = .returned (hdV (restHd r o)) ∧ Below w.heap.size w w' := by
  have k0 := (Below.refl w.heap.size w).alloc (Nat.le_refl _) (.cells #[.int .i64 0, .int .i64 0, .int .i64 0, .int .i64 0, .int .i64 0, .int .i64 0, .int .i64 0, .bool false, .int .i64 0, .int .i64 0, .int .i64 0, .int .i64 0] 39)
  have kk := Below.refl (w.alloc (.cells #[.int .i64 0, .int .i64 0, .int .i64 0, .int .i64 0, .int .i64 0, .int .i64 0, .int .i64 0, .bool false, .int .i64 0, .int .i64 0, .int .i64 0, .int .i64 0] 39)).heap.size (w.alloc (.cells #[.int .i64 0, .int .i64 0, .int .i64 0, .int .i64 0, .int .i64 0, .int .i64 0, .int .i64 0, .bool false, .int .i64 0, .int .i64 0, .int .i64 0, .int .i64 0] 39))
  have p0 := heap_alloc_new w (.cells #[.int .i64 0, .int .i64 0, .int .i64 0, .int .i64 0, .int .i64 0, .int .i64 0, .int .i64 0, .bool false, .int .i64 0, .int .i64 0, .int .i64 0, .int .i64 0] 39)
  go_enter Tryz.func104, Tryz.ntmps104
  go_wp2_with fail
  go_at_call 122; refine (imNewHand_any _).mono ?_; rintro e w1 ⟨rfl, hb⟩; replace kk := kk.trans (hb.mono kk.size); clear hb
  have hz := kk.size
  simp at hz
  replace p0 := b_block kk p0 (by simp)
  generalize hB : w.heap.size = B at p0 hz ⊢
  have kw := k0.trans (kk.mono k0.size)
  clear kk
  have c0 : ∀ X : Obj, (w1.alloc X).cell? ⟨B, 0, none⟩ = some (.int .i64 0) := fun X => cell_of_block (alloc_block X p0) 0
  have f0 : ∀ X : Obj, (w1.alloc X).frozen? ⟨B, 0, none⟩ = false := fun X => unfrozen_of_block (alloc_block X p0) 0
  have c1 : ∀ X : Obj, (w1.alloc X).cell? ⟨B, 1, none⟩ = some (.int .i64 0) := fun X => cell_of_block (alloc_block X p0) 1
  have f1 : ∀ X : Obj, (w1.alloc X).frozen? ⟨B, 1, none⟩ = false := fun X => unfrozen_of_block (alloc_block X p0) 1
  have c2 : ∀ X : Obj, (w1.alloc X).cell? ⟨B, 2, none⟩ = some (.int .i64 0) := fun X => cell_of_block (alloc_block X p0) 2
  have f2 : ∀ X : Obj, (w1.alloc X).frozen? ⟨B, 2, none⟩ = false := fun X => unfrozen_of_block (alloc_block X p0) 2
  have c3 : ∀ X : Obj, (w1.alloc X).cell? ⟨B, 3, none⟩ = some (.int .i64 0) := fun X => cell_of_block (alloc_block X p0) 3
  have f3 : ∀ X : Obj, (w1.alloc X).frozen? ⟨B, 3, none⟩ = false := fun X => unfrozen_of_block (alloc_block X p0) 3
  have c4 : ∀ X : Obj, (w1.alloc X).cell? ⟨B, 4, none⟩ = some (.int .i64 0) := fun X => cell_of_block (alloc_block X p0) 4
  have f4 : ∀ X : Obj, (w1.alloc X).frozen? ⟨B, 4, none⟩ = false := fun X => unfrozen_of_block (alloc_block X p0) 4
  have c5 : ∀ X : Obj, (w1.alloc X).cell? ⟨B, 5, none⟩ = some (.int .i64 0) := fun X => cell_of_block (alloc_block X p0) 5
  have f5 : ∀ X : Obj, (w1.alloc X).frozen? ⟨B, 5, none⟩ = false := fun X => unfrozen_of_block (alloc_block X p0) 5
  have c6 : ∀ X : Obj, (w1.alloc X).cell? ⟨B, 6, none⟩ = some (.int .i64 0) := fun X => cell_of_block (alloc_block X p0) 6
  have f6 : ∀ X : Obj, (w1.alloc X).frozen? ⟨B, 6, none⟩ = false := fun X => unfrozen_of_block (alloc_block X p0) 6
  have c7 : ∀ X : Obj, (w1.alloc X).cell? ⟨B, 7, none⟩ = some (.bool false) := fun X => cell_of_block (alloc_block X p0) 7
  have f7 : ∀ X : Obj, (w1.alloc X).frozen? ⟨B, 7, none⟩ = false := fun X => unfrozen_of_block (alloc_block X p0) 7
  have c8 : ∀ X : Obj, (w1.alloc X).cell? ⟨B, 8, none⟩ = some (.int .i64 0) := fun X => cell_of_block (alloc_block X p0) 8
  have f8 : ∀ X : Obj, (w1.alloc X).frozen? ⟨B, 8, none⟩ = false := fun X => unfrozen_of_block (alloc_block X p0) 8
  have c9 : ∀ X : Obj, (w1.alloc X).cell? ⟨B, 9, none⟩ = some (.int .i64 0) := fun X => cell_of_block (alloc_block X p0) 9
  have f9 : ∀ X : Obj, (w1.alloc X).frozen? ⟨B, 9, none⟩ = false := fun X => unfrozen_of_block (alloc_block X p0) 9
  have c10 : ∀ X : Obj, (w1.alloc X).cell? ⟨B, 10, none⟩ = some (.int .i64 0) := fun X => cell_of_block (alloc_block X p0) 10
  have f10 : ∀ X : Obj, (w1.alloc X).frozen? ⟨B, 10, none⟩ = false := fun X => unfrozen_of_block (alloc_block X p0) 10
  have c11 : ∀ X : Obj, (w1.alloc X).cell? ⟨B, 11, none⟩ = some (.int .i64 0) := fun X => cell_of_block (alloc_block X p0) 11
  have f11 : ∀ X : Obj, (w1.alloc X).frozen? ⟨B, 11, none⟩ = false := fun X => unfrozen_of_block (alloc_block X p0) 11
  go_wp2
  obtain ⟨X, hX⟩ : ∃ X : Obj, X = .cells (hdCells ⟨newHd.pos, newHd.call, newHd.tim, newHd.whe, newHd.had, newHd.cnt, newHd.beg, r, o⟩) 39 := ⟨_, rfl⟩
  have r0 := set_hand (h := ⟨newHd.pos, newHd.call, newHd.tim, newHd.whe, newHd.had, newHd.cnt, newHd.beg, r, o⟩) (alloc_block X p0)
  have hb := b_set_hand (n := w.heap.size) (h := ⟨newHd.pos, newHd.call, newHd.tim, newHd.whe, newHd.had, newHd.cnt, newHd.beg, r, o⟩) ((kw.alloc kw.size X)) (Nat.le_of_eq hB)
  rw [hX] at r0 hb
  have hq := r0
  clear r0
  have r0 := cell_of_block hq 0
  have r1 := cell_of_block hq 1
  have r2 := cell_of_block hq 2
  have r3 := cell_of_block hq 3
  have r4 := cell_of_block hq 4
  have r5 := cell_of_block hq 5
  have r6 := cell_of_block hq 6
  have r7 := cell_of_block hq 7
  have r8 := cell_of_block hq 8
  have r9 := cell_of_block hq 9
  have r10 := cell_of_block hq 10
  have r11 := cell_of_block hq 11
  exact bodyPost_ret (v := hdV ⟨newHd.pos, newHd.call, newHd.tim, newHd.whe, newHd.had, newHd.cnt, newHd.beg, r, o⟩) (by simp [results, Tryz.results104, go_sem, r0, r1, r2, r3, r4, r5, r6, r7, r8, r9, r10, r11]) rfl ⟨rfl, hb⟩

def beganB (h : Hd) : Bool := h.pos == 0 && noneB h.call
def timB (a b c : Int) (h : Hd) : Bool := h.tim == -1 || mayB a b c h.tim
def hcallB (a b c : Int) (h : Hd) : Bool := beganB h || (imNamedB a b c h.call && imRestB h.call)

set_option maxRecDepth 100000 in
set_option maxHeartbeats 1000000 in
theorem notBegun_twelve (po k x y z ti wh : Int) (ha : Bool) (cn be re ou : Int) (w : World) : Calls Tryz.prog 133 #[.agg #[.int .i64 po, .int .i64 k, .int .i64 x, .int .i64 y, .int .i64 z, .int .i64 ti, .int .i64 wh, .bool ha, .int .i64 cn, .int .i64 be, .int .i64 re, .int .i64 ou]] w fun e w' => e = .returned (.bool (beganB ⟨po, ⟨k, x, y, z⟩, ti, wh, ha, cn, be, re, ou⟩)) ∧ Below w.heap.size w w' := by
  have k0 := ((Below.refl w.heap.size w).alloc (Nat.le_refl _) (.cells #[.int .i64 po, .int .i64 k, .int .i64 x, .int .i64 y, .int .i64 z, .int .i64 ti, .int .i64 wh, .bool ha, .int .i64 cn, .int .i64 be, .int .i64 re, .int .i64 ou] 39))
  have kk := Below.refl (w.alloc (.cells #[.int .i64 po, .int .i64 k, .int .i64 x, .int .i64 y, .int .i64 z, .int .i64 ti, .int .i64 wh, .bool ha, .int .i64 cn, .int .i64 be, .int .i64 re, .int .i64 ou] 39)).heap.size (w.alloc (.cells #[.int .i64 po, .int .i64 k, .int .i64 x, .int .i64 y, .int .i64 z, .int .i64 ti, .int .i64 wh, .bool ha, .int .i64 cn, .int .i64 be, .int .i64 re, .int .i64 ou] 39))
  by_cases h0 : po = 0
  case neg =>
    have h0b : (po == 0) = false := by simpa using h0
    rw [show beganB ⟨po, ⟨k, x, y, z⟩, ti, wh, ha, cn, be, re, ou⟩ = false by simp [beganB, noneB, h0]]
    go_enter Tryz.func133, Tryz.ntmps133
    go_wp2
    all_goals
      go_ret
      exact ⟨ret_bool' (by simp), k0.trans (kk.mono k0.size)⟩
  subst h0
  by_cases h1 : k = 0
  case neg =>
    rw [show beganB ⟨0, ⟨k, x, y, z⟩, ti, wh, ha, cn, be, re, ou⟩ = false by simp [beganB, noneB, h1]]
    go_enter Tryz.func133, Tryz.ntmps133
    go_wp2
    all_goals
      go_ret
      exact ⟨ret_bool' (by simp), k0.trans (kk.mono k0.size)⟩
  subst h1
  by_cases h2 : x = 0
  case neg =>
    rw [show beganB ⟨0, ⟨0, x, y, z⟩, ti, wh, ha, cn, be, re, ou⟩ = false by simp [beganB, noneB, h2]]
    go_enter Tryz.func133, Tryz.ntmps133
    go_wp2
    all_goals
      go_ret
      exact ⟨ret_bool' (by simp), k0.trans (kk.mono k0.size)⟩
  subst h2
  by_cases h3 : y = 0
  case neg =>
    rw [show beganB ⟨0, ⟨0, 0, y, z⟩, ti, wh, ha, cn, be, re, ou⟩ = false by simp [beganB, noneB, h3]]
    go_enter Tryz.func133, Tryz.ntmps133
    go_wp2
    all_goals
      go_ret
      exact ⟨ret_bool' (by simp), k0.trans (kk.mono k0.size)⟩
  subst h3
  by_cases h4 : z = 0
  case neg =>
    rw [show beganB ⟨0, ⟨0, 0, 0, z⟩, ti, wh, ha, cn, be, re, ou⟩ = false by simp [beganB, noneB, h4]]
    go_enter Tryz.func133, Tryz.ntmps133
    go_wp2
    all_goals
      go_ret
      exact ⟨ret_bool' (by simp), k0.trans (kk.mono k0.size)⟩
  subst h4
  rw [show beganB ⟨0, ⟨0, 0, 0, 0⟩, ti, wh, ha, cn, be, re, ou⟩ = true by simp [beganB, noneB]]
  go_enter Tryz.func133, Tryz.ntmps133
  go_wp2
  all_goals
    go_ret
    exact ⟨ret_bool' (by simp), k0.trans (kk.mono k0.size)⟩

set_option maxRecDepth 100000 in
set_option maxHeartbeats 1000000 in
theorem timerRightH_twelve (a b c : Int) (po k x y z ti wh : Int) (ha : Bool) (cn be re ou : Int) (w : World) : Calls Tryz.prog 119 #[.agg #[.int .i64 po, .int .i64 k, .int .i64 x, .int .i64 y, .int .i64 z, .int .i64 ti, .int .i64 wh, .bool ha, .int .i64 cn, .int .i64 be, .int .i64 re, .int .i64 ou], .agg #[.int .i64 a, .int .i64 b, .int .i64 c]] w fun e w' => e = .returned (.bool (timB a b c ⟨po, ⟨k, x, y, z⟩, ti, wh, ha, cn, be, re, ou⟩)) ∧ Below w.heap.size w w' := by
  have k0 := (((Below.refl w.heap.size w).alloc (Nat.le_refl _) (.cells #[.int .i64 po, .int .i64 k, .int .i64 x, .int .i64 y, .int .i64 z, .int .i64 ti, .int .i64 wh, .bool ha, .int .i64 cn, .int .i64 be, .int .i64 re, .int .i64 ou] 39)).alloc (by simp) (.cells #[.int .i64 a, .int .i64 b, .int .i64 c] 46))
  have kk := Below.refl ((w.alloc (.cells #[.int .i64 po, .int .i64 k, .int .i64 x, .int .i64 y, .int .i64 z, .int .i64 ti, .int .i64 wh, .bool ha, .int .i64 cn, .int .i64 be, .int .i64 re, .int .i64 ou] 39)).alloc (.cells #[.int .i64 a, .int .i64 b, .int .i64 c] 46)).heap.size ((w.alloc (.cells #[.int .i64 po, .int .i64 k, .int .i64 x, .int .i64 y, .int .i64 z, .int .i64 ti, .int .i64 wh, .bool ha, .int .i64 cn, .int .i64 be, .int .i64 re, .int .i64 ou] 39)).alloc (.cells #[.int .i64 a, .int .i64 b, .int .i64 c] 46))
  by_cases h1 : ti = -1
  case pos =>
    subst h1
    rw [show timB a b c ⟨po, ⟨k, x, y, z⟩, -1, wh, ha, cn, be, re, ou⟩ = true by simp [timB]]
    go_enter Tryz.func119, Tryz.ntmps119
    go_wp2_with (first
      | (go_at_call 132; refine (mayHave_any _ _ _ _ _).mono ?_; rintro e w1 ⟨rfl, hb⟩; replace kk := kk.trans (hb.mono kk.size); clear hb; (try clear hc hf); obtain ⟨hc, hf⟩ := bcell kk))
    go_ret
    exact ⟨ret_bool' (by simp), k0.trans (kk.mono k0.size)⟩
  have h1b : (ti == -1) = false := by simpa using h1
  go_enter Tryz.func119, Tryz.ntmps119
  go_wp2_with (first
    | (go_at_call 132; refine (mayHave_any _ _ _ _ _).mono ?_; rintro e w1 ⟨rfl, hb⟩; replace kk := kk.trans (hb.mono kk.size); clear hb; (try clear hc hf); obtain ⟨hc, hf⟩ := bcell kk))
  go_ret
  exact ⟨ret_bool' (by simp [timB, h1]), k0.trans (kk.mono k0.size)⟩

set_option maxRecDepth 100000 in
set_option maxHeartbeats 1000000 in
theorem callRightH_twelve (a b c : Int) (po k x y z ti wh : Int) (ha : Bool) (cn be re ou : Int) (w : World) : Calls Tryz.prog 120 #[.agg #[.int .i64 po, .int .i64 k, .int .i64 x, .int .i64 y, .int .i64 z, .int .i64 ti, .int .i64 wh, .bool ha, .int .i64 cn, .int .i64 be, .int .i64 re, .int .i64 ou], .agg #[.int .i64 a, .int .i64 b, .int .i64 c]] w fun e w' => e = .returned (.bool (hcallB a b c ⟨po, ⟨k, x, y, z⟩, ti, wh, ha, cn, be, re, ou⟩)) ∧ Below w.heap.size w w' := by
  have k0 := (((Below.refl w.heap.size w).alloc (Nat.le_refl _) (.cells #[.int .i64 po, .int .i64 k, .int .i64 x, .int .i64 y, .int .i64 z, .int .i64 ti, .int .i64 wh, .bool ha, .int .i64 cn, .int .i64 be, .int .i64 re, .int .i64 ou] 39)).alloc (by simp) (.cells #[.int .i64 a, .int .i64 b, .int .i64 c] 46))
  have kk := Below.refl ((w.alloc (.cells #[.int .i64 po, .int .i64 k, .int .i64 x, .int .i64 y, .int .i64 z, .int .i64 ti, .int .i64 wh, .bool ha, .int .i64 cn, .int .i64 be, .int .i64 re, .int .i64 ou] 39)).alloc (.cells #[.int .i64 a, .int .i64 b, .int .i64 c] 46)).heap.size ((w.alloc (.cells #[.int .i64 po, .int .i64 k, .int .i64 x, .int .i64 y, .int .i64 z, .int .i64 ti, .int .i64 wh, .bool ha, .int .i64 cn, .int .i64 be, .int .i64 re, .int .i64 ou] 39)).alloc (.cells #[.int .i64 a, .int .i64 b, .int .i64 c] 46))
  cases h1 : beganB ⟨po, ⟨k, x, y, z⟩, ti, wh, ha, cn, be, re, ou⟩
  case true =>
    rw [show hcallB a b c ⟨po, ⟨k, x, y, z⟩, ti, wh, ha, cn, be, re, ou⟩ = true by simp [hcallB, h1]]
    go_enter Tryz.func120, Tryz.ntmps120
    go_wp2_with (first
      | (go_at_call 133; refine (notBegun_twelve _ _ _ _ _ _ _ _ _ _ _ _ _).mono ?_; rintro e w1 ⟨rfl, hb⟩; replace kk := kk.trans (hb.mono kk.size); clear hb; (try clear hc hf); obtain ⟨hc, hf⟩ := bcell kk)
      | (go_at_call 134; refine (rightInC_four _ _ _ _ _ _ _ _).mono ?_; rintro e w1 ⟨rfl, hb⟩; replace kk := kk.trans (hb.mono kk.size); clear hb; (try clear hc hf); obtain ⟨hc, hf⟩ := bcell kk))
    go_ret
    exact ⟨ret_bool' (by simp), k0.trans (kk.mono k0.size)⟩
  go_enter Tryz.func120, Tryz.ntmps120
  go_wp2_with (first
    | (go_at_call 133; refine (notBegun_twelve _ _ _ _ _ _ _ _ _ _ _ _ _).mono ?_; rintro e w1 ⟨rfl, hb⟩; replace kk := kk.trans (hb.mono kk.size); clear hb; (try clear hc hf); obtain ⟨hc, hf⟩ := bcell kk)
    | (go_at_call 134; refine (rightInC_four _ _ _ _ _ _ _ _).mono ?_; rintro e w1 ⟨rfl, hb⟩; replace kk := kk.trans (hb.mono kk.size); clear hb; (try clear hc hf); obtain ⟨hc, hf⟩ := bcell kk))
  go_ret
  exact ⟨ret_bool' (by simp [hcallB, h1]), k0.trans (kk.mono k0.size)⟩

set_option maxRecDepth 100000 in
set_option maxHeartbeats 2000000 in
theorem numbersRightH_twelve (po k x y z ti wh : Int) (ha : Bool) (cn be re ou : Int) (w : World) : Calls Tryz.prog 118 #[.agg #[.int .i64 po, .int .i64 k, .int .i64 x, .int .i64 y, .int .i64 z, .int .i64 ti, .int .i64 wh, .bool ha, .int .i64 cn, .int .i64 be, .int .i64 re, .int .i64 ou]] w fun e w' => e = .returned (.bool (hdNumB ⟨po, ⟨k, x, y, z⟩, ti, wh, ha, cn, be, re, ou⟩)) ∧ Below w.heap.size w w' := by
  have k0 := ((Below.refl w.heap.size w).alloc (Nat.le_refl _) (.cells #[.int .i64 po, .int .i64 k, .int .i64 x, .int .i64 y, .int .i64 z, .int .i64 ti, .int .i64 wh, .bool ha, .int .i64 cn, .int .i64 be, .int .i64 re, .int .i64 ou] 39))
  have kk := Below.refl (w.alloc (.cells #[.int .i64 po, .int .i64 k, .int .i64 x, .int .i64 y, .int .i64 z, .int .i64 ti, .int .i64 wh, .bool ha, .int .i64 cn, .int .i64 be, .int .i64 re, .int .i64 ou] 39)).heap.size (w.alloc (.cells #[.int .i64 po, .int .i64 k, .int .i64 x, .int .i64 y, .int .i64 z, .int .i64 ti, .int .i64 wh, .bool ha, .int .i64 cn, .int .i64 be, .int .i64 re, .int .i64 ou] 39))
  cases h0 : inB po 0 18
  · skip
    rw [show hdNumB ⟨po, ⟨k, x, y, z⟩, ti, wh, ha, cn, be, re, ou⟩ = false by simp [hdNumB, h0]]
    go_enter Tryz.func118, Tryz.ntmps118
    go_wp2_with (first
      | (go_at_call 121; refine (within_any _ _ _ _).mono ?_; rintro e w' ⟨rfl, rfl⟩)
      | (go_at_call 105; refine (isTime_any _ _).mono ?_; rintro e w' ⟨rfl, rfl⟩))
    go_ret
    exact ⟨ret_bool' (by simp), k0.trans (kk.mono k0.size)⟩
  cases h1 : inB wh 0 1000000000
  · skip
    rw [show hdNumB ⟨po, ⟨k, x, y, z⟩, ti, wh, ha, cn, be, re, ou⟩ = false by simp [hdNumB, h0, h1]]
    go_enter Tryz.func118, Tryz.ntmps118
    go_wp2_with (first
      | (go_at_call 121; refine (within_any _ _ _ _).mono ?_; rintro e w' ⟨rfl, rfl⟩)
      | (go_at_call 105; refine (isTime_any _ _).mono ?_; rintro e w' ⟨rfl, rfl⟩))
    go_ret
    exact ⟨ret_bool' (by simp), k0.trans (kk.mono k0.size)⟩
  cases h2 : inB cn 0 1000
  · skip
    rw [show hdNumB ⟨po, ⟨k, x, y, z⟩, ti, wh, ha, cn, be, re, ou⟩ = false by simp [hdNumB, h0, h1, h2]]
    go_enter Tryz.func118, Tryz.ntmps118
    go_wp2_with (first
      | (go_at_call 121; refine (within_any _ _ _ _).mono ?_; rintro e w' ⟨rfl, rfl⟩)
      | (go_at_call 105; refine (isTime_any _ _).mono ?_; rintro e w' ⟨rfl, rfl⟩))
    go_ret
    exact ⟨ret_bool' (by simp), k0.trans (kk.mono k0.size)⟩
  cases h3 : inB be 0 20000
  · skip
    rw [show hdNumB ⟨po, ⟨k, x, y, z⟩, ti, wh, ha, cn, be, re, ou⟩ = false by simp [hdNumB, h0, h1, h2, h3]]
    go_enter Tryz.func118, Tryz.ntmps118
    go_wp2_with (first
      | (go_at_call 121; refine (within_any _ _ _ _).mono ?_; rintro e w' ⟨rfl, rfl⟩)
      | (go_at_call 105; refine (isTime_any _ _).mono ?_; rintro e w' ⟨rfl, rfl⟩))
    go_ret
    exact ⟨ret_bool' (by simp), k0.trans (kk.mono k0.size)⟩
  cases h4 : inB re 0 5
  · skip
    rw [show hdNumB ⟨po, ⟨k, x, y, z⟩, ti, wh, ha, cn, be, re, ou⟩ = false by simp [hdNumB, h0, h1, h2, h3, h4]]
    go_enter Tryz.func118, Tryz.ntmps118
    go_wp2_with (first
      | (go_at_call 121; refine (within_any _ _ _ _).mono ?_; rintro e w' ⟨rfl, rfl⟩)
      | (go_at_call 105; refine (isTime_any _ _).mono ?_; rintro e w' ⟨rfl, rfl⟩))
    go_ret
    exact ⟨ret_bool' (by simp), k0.trans (kk.mono k0.size)⟩
  go_enter Tryz.func118, Tryz.ntmps118
  go_wp2_with (first
    | (go_at_call 121; refine (within_any _ _ _ _).mono ?_; rintro e w' ⟨rfl, rfl⟩)
    | (go_at_call 105; refine (isTime_any _ _).mono ?_; rintro e w' ⟨rfl, rfl⟩))
  go_ret
  exact ⟨ret_bool' (by simp [hdNumB, h0, h1, h2, h3, h4]), k0.trans (kk.mono k0.size)⟩

theorem im_hand (a b c : Int) (h : Hd) : (planB a b c && (hdNumB h && (timB a b c h && hcallB a b c h))) = handB a b c h := by
  cases h1 : planB a b c
  · simp [handB, h1]
  obtain ⟨b0, b1, b2⟩ := planB_iff.1 h1
  have e : timB a b c h = inB h.tim (-1) (c - 1) := by
    rw [Bool.eq_iff_iff]
    simp [timB, mayB, h1, inB_iff]
    omega
  simp only [handB, h1, e, hcallB, beganB, im_named h1, Bool.true_and]
  rw [Bool.or_comm]

set_option maxRecDepth 100000 in
set_option maxHeartbeats 2000000 in
theorem imHandOk_twelve (a b c : Int) (po k x y z ti wh : Int) (ha : Bool) (cn be re ou : Int) (w : World) : Calls Tryz.prog 98 #[.agg #[.int .i64 a, .int .i64 b, .int .i64 c], .agg #[.int .i64 po, .int .i64 k, .int .i64 x, .int .i64 y, .int .i64 z, .int .i64 ti, .int .i64 wh, .bool ha, .int .i64 cn, .int .i64 be, .int .i64 re, .int .i64 ou]] w fun e w' => e = .returned (.bool (handB a b c ⟨po, ⟨k, x, y, z⟩, ti, wh, ha, cn, be, re, ou⟩)) ∧ Below w.heap.size w w' := by
  have k0 := (((Below.refl w.heap.size w).alloc (Nat.le_refl _) (.cells #[.int .i64 a, .int .i64 b, .int .i64 c] 46)).alloc (by simp) (.cells #[.int .i64 po, .int .i64 k, .int .i64 x, .int .i64 y, .int .i64 z, .int .i64 ti, .int .i64 wh, .bool ha, .int .i64 cn, .int .i64 be, .int .i64 re, .int .i64 ou] 39))
  have kk := Below.refl ((w.alloc (.cells #[.int .i64 a, .int .i64 b, .int .i64 c] 46)).alloc (.cells #[.int .i64 po, .int .i64 k, .int .i64 x, .int .i64 y, .int .i64 z, .int .i64 ti, .int .i64 wh, .bool ha, .int .i64 cn, .int .i64 be, .int .i64 re, .int .i64 ou] 39)).heap.size ((w.alloc (.cells #[.int .i64 a, .int .i64 b, .int .i64 c] 46)).alloc (.cells #[.int .i64 po, .int .i64 k, .int .i64 x, .int .i64 y, .int .i64 z, .int .i64 ti, .int .i64 wh, .bool ha, .int .i64 cn, .int .i64 be, .int .i64 re, .int .i64 ou] 39))
  rw [← im_hand]
  cases h0 : planB a b c
  · skip
    go_enter Tryz.func98, Tryz.ntmps98
    go_wp2_with (first
      | (go_at_call 117; refine (right_any _ _ _ _).mono ?_; rintro e w1 ⟨rfl, hb⟩; replace kk := kk.trans (hb.mono kk.size); clear hb; (try clear hc hf); obtain ⟨hc, hf⟩ := bcell kk)
      | (go_at_call 118; refine (numbersRightH_twelve _ _ _ _ _ _ _ _ _ _ _ _ _).mono ?_; rintro e w1 ⟨rfl, hb⟩; replace kk := kk.trans (hb.mono kk.size); clear hb; (try clear hc hf); obtain ⟨hc, hf⟩ := bcell kk)
      | (go_at_call 119; refine (timerRightH_twelve _ _ _ _ _ _ _ _ _ _ _ _ _ _ _ _).mono ?_; rintro e w1 ⟨rfl, hb⟩; replace kk := kk.trans (hb.mono kk.size); clear hb; (try clear hc hf); obtain ⟨hc, hf⟩ := bcell kk)
      | (go_at_call 120; refine (callRightH_twelve _ _ _ _ _ _ _ _ _ _ _ _ _ _ _ _).mono ?_; rintro e w1 ⟨rfl, hb⟩; replace kk := kk.trans (hb.mono kk.size); clear hb; (try clear hc hf); obtain ⟨hc, hf⟩ := bcell kk))
    go_ret
    exact ⟨ret_bool' (by simp []), k0.trans (kk.mono k0.size)⟩
  cases h1 : hdNumB ⟨po, ⟨k, x, y, z⟩, ti, wh, ha, cn, be, re, ou⟩
  · skip
    go_enter Tryz.func98, Tryz.ntmps98
    go_wp2_with (first
      | (go_at_call 117; refine (right_any _ _ _ _).mono ?_; rintro e w1 ⟨rfl, hb⟩; replace kk := kk.trans (hb.mono kk.size); clear hb; (try clear hc hf); obtain ⟨hc, hf⟩ := bcell kk)
      | (go_at_call 118; refine (numbersRightH_twelve _ _ _ _ _ _ _ _ _ _ _ _ _).mono ?_; rintro e w1 ⟨rfl, hb⟩; replace kk := kk.trans (hb.mono kk.size); clear hb; (try clear hc hf); obtain ⟨hc, hf⟩ := bcell kk)
      | (go_at_call 119; refine (timerRightH_twelve _ _ _ _ _ _ _ _ _ _ _ _ _ _ _ _).mono ?_; rintro e w1 ⟨rfl, hb⟩; replace kk := kk.trans (hb.mono kk.size); clear hb; (try clear hc hf); obtain ⟨hc, hf⟩ := bcell kk)
      | (go_at_call 120; refine (callRightH_twelve _ _ _ _ _ _ _ _ _ _ _ _ _ _ _ _).mono ?_; rintro e w1 ⟨rfl, hb⟩; replace kk := kk.trans (hb.mono kk.size); clear hb; (try clear hc hf); obtain ⟨hc, hf⟩ := bcell kk))
    go_ret
    exact ⟨ret_bool' (by simp []), k0.trans (kk.mono k0.size)⟩
  cases h2 : timB a b c ⟨po, ⟨k, x, y, z⟩, ti, wh, ha, cn, be, re, ou⟩
  · skip
    go_enter Tryz.func98, Tryz.ntmps98
    go_wp2_with (first
      | (go_at_call 117; refine (right_any _ _ _ _).mono ?_; rintro e w1 ⟨rfl, hb⟩; replace kk := kk.trans (hb.mono kk.size); clear hb; (try clear hc hf); obtain ⟨hc, hf⟩ := bcell kk)
      | (go_at_call 118; refine (numbersRightH_twelve _ _ _ _ _ _ _ _ _ _ _ _ _).mono ?_; rintro e w1 ⟨rfl, hb⟩; replace kk := kk.trans (hb.mono kk.size); clear hb; (try clear hc hf); obtain ⟨hc, hf⟩ := bcell kk)
      | (go_at_call 119; refine (timerRightH_twelve _ _ _ _ _ _ _ _ _ _ _ _ _ _ _ _).mono ?_; rintro e w1 ⟨rfl, hb⟩; replace kk := kk.trans (hb.mono kk.size); clear hb; (try clear hc hf); obtain ⟨hc, hf⟩ := bcell kk)
      | (go_at_call 120; refine (callRightH_twelve _ _ _ _ _ _ _ _ _ _ _ _ _ _ _ _).mono ?_; rintro e w1 ⟨rfl, hb⟩; replace kk := kk.trans (hb.mono kk.size); clear hb; (try clear hc hf); obtain ⟨hc, hf⟩ := bcell kk))
    go_ret
    exact ⟨ret_bool' (by simp []), k0.trans (kk.mono k0.size)⟩
  go_enter Tryz.func98, Tryz.ntmps98
  go_wp2_with (first
    | (go_at_call 117; refine (right_any _ _ _ _).mono ?_; rintro e w1 ⟨rfl, hb⟩; replace kk := kk.trans (hb.mono kk.size); clear hb; (try clear hc hf); obtain ⟨hc, hf⟩ := bcell kk)
    | (go_at_call 118; refine (numbersRightH_twelve _ _ _ _ _ _ _ _ _ _ _ _ _).mono ?_; rintro e w1 ⟨rfl, hb⟩; replace kk := kk.trans (hb.mono kk.size); clear hb; (try clear hc hf); obtain ⟨hc, hf⟩ := bcell kk)
    | (go_at_call 119; refine (timerRightH_twelve _ _ _ _ _ _ _ _ _ _ _ _ _ _ _ _).mono ?_; rintro e w1 ⟨rfl, hb⟩; replace kk := kk.trans (hb.mono kk.size); clear hb; (try clear hc hf); obtain ⟨hc, hf⟩ := bcell kk)
    | (go_at_call 120; refine (callRightH_twelve _ _ _ _ _ _ _ _ _ _ _ _ _ _ _ _).mono ?_; rintro e w1 ⟨rfl, hb⟩; replace kk := kk.trans (hb.mono kk.size); clear hb; (try clear hc hf); obtain ⟨hc, hf⟩ := bcell kk))
  go_ret
  exact ⟨ret_bool' (by simp []), k0.trans (kk.mono k0.size)⟩

theorem imHandOk_any (a b c : Int) (h : Hd) (w : World) :
    Calls Tryz.prog 98 #[.agg #[.int .i64 a, .int .i64 b, .int .i64 c], hdV h] w fun e w' => e = .returned (.bool (handB a b c h)) ∧ Below w.heap.size w w' :=
  imHandOk_twelve a b c h.pos h.call.code h.call.a h.call.b h.call.c h.tim h.whe h.had h.cnt h.beg h.rep h.out w

end Go.Proofs.YtflekodaiejflaaGreat

/-
  A step while it is made, in the program (chapter 9): locked, unlocked, replied, told; what gives up, and what catches that.
-/
namespace Go.Proofs.YtflekodaiejflaaGreat
open Go.RowKit Go.Joins
set_option linter.unusedVariables false
set_option linter.unusedSimpArgs false

theorem giveUp_any (w : World) : Calls Tryz.prog 54 #[] w fun e w' => (∃ u pv, e = .panicked [{ v := .iface u pv, recovered := false }]) ∧ w' = w := by
  go_enter Tryz.func54, Tryz.ntmps54
  go_wp2
  exact ⟨rfl, ⟨_, _, rfl⟩, rfl⟩

theorem catch_panicking (u : TypeId) (pv : Value) (older : List PanicEntry) (w : World) :
    CallsD Tryz.prog 45 #[] (.panicking ({ v := .iface u pv, recovered := false } :: older)) w fun e u' w' =>
      e = .returned (.tuple #[]) ∧ u' = .panicking ({ v := .iface u pv, recovered := true } :: older) ∧ w' = w := by
  refine callsD_of_wpS Tryz.func45 rfl fun c₀ cs hu => ?_
  apply wpS_region
  simp [wpOpsS, go_sem, recoverD, hu, Tryz.ntmps45, Exit.thenS, bodyPostS, results, Tryz.results45]

theorem catch_idle (w : World) :
    CallsD Tryz.prog 45 #[] .returning w fun e u' w' => e = .returned (.tuple #[]) ∧ u' = .returning ∧ w' = w := by
  refine callsD_of_wpS Tryz.func45 rfl fun c₀ cs hu => ?_
  apply wpS_region
  cases c₀
  simp_all [wpOpsS, go_sem, recoverD, Tryz.ntmps45, Exit.thenS, bodyPostS, results, Tryz.results45]

/-- what a call on a deed does -/
def InD (B mb db : Nat) (a b c d : Int) (D : Dn) (w w' : World) : Prop := DeedX w' B mb db a b c d D ∧ Wd B w w'

set_option maxRecDepth 100000 in
set_option maxHeartbeats 2000000 in
theorem reply_any {w : World} {B mb db : Nat} {a b c d : Int} {D : Dn} (r o : Int) (hB : B ≤ w.heap.size) (h : DeedX w B mb db a b c d D) :
    Calls Tryz.prog 76 #[ptrV db, .int .i64 r, .int .i64 o] w fun e w' => e = .returned (.tuple #[]) ∧ InD B mb db a b c d ⟨D.m, restHd r o, D.v⟩ w w' := by
  go_enter Tryz.func76, Tryz.ntmps76
  go_wp2_with fail
  go_at_call 104; refine (imResting_any r o _).mono ?_; rintro e w1 ⟨rfl, hb⟩
  have h1 := h.below hb
  have k1 : Wd B w w1 := .of_new hb hB
  have h2 := h1.setHand (restHd r o)
  have k2 := k1.setDs h1 2 (hdCells (restHd r o)).toList
  clear h hb k1
  have hf := fun o => unfrozen_of_block h1.e o
  have c2 : w1.cell? ⟨db, 2, none⟩ = some _ := cell_of_block h1.e 2
  have c3 : w1.cell? ⟨db, 3, none⟩ = some _ := cell_of_block h1.e 3
  have c4 : w1.cell? ⟨db, 4, none⟩ = some _ := cell_of_block h1.e 4
  have c5 : w1.cell? ⟨db, 5, none⟩ = some _ := cell_of_block h1.e 5
  have c6 : w1.cell? ⟨db, 6, none⟩ = some _ := cell_of_block h1.e 6
  have c7 : w1.cell? ⟨db, 7, none⟩ = some _ := cell_of_block h1.e 7
  have c8 : w1.cell? ⟨db, 8, none⟩ = some _ := cell_of_block h1.e 8
  have c9 : w1.cell? ⟨db, 9, none⟩ = some _ := cell_of_block h1.e 9
  have c10 : w1.cell? ⟨db, 10, none⟩ = some _ := cell_of_block h1.e 10
  have c11 : w1.cell? ⟨db, 11, none⟩ = some _ := cell_of_block h1.e 11
  have c12 : w1.cell? ⟨db, 12, none⟩ = some _ := cell_of_block h1.e 12
  have c13 : w1.cell? ⟨db, 13, none⟩ = some _ := cell_of_block h1.e 13
  clear h1
  go_wp2
  go_end0
  exact ⟨rfl, h2, k2⟩

set_option maxRecDepth 100000 in
set_option maxHeartbeats 2000000 in
theorem tell_any {w : World} {B mb db t : Nat} {a b c d : Int} {D : Dn} (kind when : Int) (hB : B ≤ w.heap.size) (ht : t < D.m.tn) (h : DeedX w B mb db a b c d D) :
    Calls Tryz.prog 82 #[ptrV db, .int .i64 kind, .int .i64 (t : Int), .int .i64 when] w fun e w' => e = .returned (.tuple #[]) ∧ InD B mb db a b c d ⟨D.m, D.h, evI D.m kind t when⟩ w w' := by
  obtain ⟨d0, _, _, _, _, _, _, _, _, hf⟩ := h.cells
  obtain ⟨tv, g, V, ho⟩ := h.o.opened
  obtain ⟨tg, tc, rfl⟩ := ho.tms ht
  obtain ⟨m0, m1, m2, m3, m4, m5⟩ := six ho.m
  obtain ⟨⟨_, _, _, _, _, t5, _, _⟩, _⟩ := ho.tcells ht
  have i2 : (0 : Int) ≤ (t : Int) := by omega
  have i3 : (t : Int) < (D.m.tn : Int) := by omega
  have k0 := (Below.refl w.heap.size w).drew
  clear ho hf
  go_enter Tryz.func82, Tryz.ntmps82
  go_still_tail 23, (by kernel_rfl)
  change wpList _ _ _ _ _ w.drew
  replace h := h.below k0
  have k1 : Wd B w w.drew := .of_new k0 hB
  clear d0 m0 m1 m2 m3 m4 m5 t5 k0
  generalize w.drew = w0 at h k1 ⊢
  have hf := fun o => unfrozen_of_block h.e o
  have c14 : w0.cell? ⟨db, 14, none⟩ = some _ := cell_of_block h.e 14
  have c15 : w0.cell? ⟨db, 15, none⟩ = some _ := cell_of_block h.e 15
  have c16 : w0.cell? ⟨db, 16, none⟩ = some _ := cell_of_block h.e 16
  have c17 : w0.cell? ⟨db, 17, none⟩ = some _ := cell_of_block h.e 17
  have c18 : w0.cell? ⟨db, 18, none⟩ = some _ := cell_of_block h.e 18
  have h2 := h.setEv (evI D.m kind t when)
  have k2 := k1.setDs h 14 [.int .i64 (evI D.m kind t when).kin, .int .i64 (evI D.m kind t when).tim, .int .i64 (evI D.m kind t when).gen, .int .i64 (evI D.m kind t when).whe, .int .i64 (evI D.m kind t when).clk]
  clear h k1
  go_wp2
  go_end0
  exact ⟨rfl, h2, k2⟩

set_option maxRecDepth 100000 in
set_option maxHeartbeats 2000000 in
theorem unlockD_any {w : World} {B mb db k : Nat} {a b c d : Int} {D : Dn} (hB : B ≤ w.heap.size) (hk : k < D.m.pn) (h : DeedX w B mb db a b c d D) :
    Calls Tryz.prog 52 #[ptrV db, .int .i64 (k : Int)] w fun e w' => e = .returned (.tuple #[]) ∧ InD B mb db a b c d ⟨unlockM D.m d k, D.h, D.v⟩ w w' := by
  obtain ⟨d0, d1, _, _, _, _, _, _, _, hf⟩ := h.cells
  obtain ⟨tv, g, V, ho⟩ := h.o.opened
  obtain ⟨m0, m1, m2, m3, m4, m5⟩ := six ho.m
  obtain ⟨p0, _, _, _⟩ := ho.l.cells hk
  have pf := ho.l.free
  have i2 : (0 : Int) ≤ (k : Int) := by omega
  have i3 : (k : Int) < (D.m.pn : Int) := by omega
  have k0 := (Below.refl w.heap.size w).drew
  by_cases hl : (D.m.p k).l = d
  · rw [show unlockM D.m d k = setPc D.m k 1 (-1) from if_pos hl]
    have HL := Lib.hid (leave_yes (w := w.drew) (g := g) (o := k * 4) d (hl ▸ p0) (pf (k * 4)))
    clear hl
    go_enter Tryz.func52, Tryz.ntmps52
    go_still_tail 14, (by kernel_rfl)
    change wpList _ _ _ _ _ w.drew
    replace h := h.below k0
    replace ho := ho.below k0
    clear p0 pf
    have k1 : Wd B w w.drew := .of_new k0 hB
    generalize w.drew = w0 at k0 k1 h ho HL ⊢
    go_wp2_with fail
    go_at_call 83; refine HL.out.mono ?_; rintro e w1 ⟨rfl, hw⟩
    subst hw
    go_wp2
    go_end0
    obtain ⟨cs, hcs⟩ := ho.l.hh
    exact ⟨rfl, h.mem (heap_set1 w0 g _ _ db (ne_ty h.e hcs (by decide))) (ho.setL hk (-1)).own, k1.set hcs ho.l.1 (by decide) _ _⟩
  · rw [show unlockM D.m d k = D.m from if_neg hl]
    have HL := Lib.hid (leave_no (w := w.drew) (g := g) (o := k * 4) d hl p0 (pf (k * 4)))
    clear hl
    go_enter Tryz.func52, Tryz.ntmps52
    go_still_tail 14, (by kernel_rfl)
    change wpList _ _ _ _ _ w.drew
    replace h := h.below k0
    replace ho := ho.below k0
    clear p0 pf
    have k1 : Wd B w w.drew := .of_new k0 hB
    generalize w.drew = w0 at k0 k1 h ho HL ⊢
    go_wp2_with fail
    go_at_call 83; refine HL.out.mono ?_; rintro e w1 ⟨rfl, hw⟩
    subst hw
    go_wp2
    go_end0
    exact ⟨rfl, h, k1⟩

set_option maxRecDepth 100000 in
set_option maxHeartbeats 2000000 in
theorem lockD_any {w : World} {B mb db k : Nat} {a b c d : Int} {D : Dn} (q : Int) (hB : B ≤ w.heap.size) (hk : k < D.m.pn) (h : DeedX w B mb db a b c d D) :
    Calls Tryz.prog 49 #[ptrV db, .int .i64 (k : Int), .int .i64 q] w fun e w' => e = .returned (.tuple #[]) ∧ InD B mb db a b c d (lockD D d k q) w w' := by
  obtain ⟨d0, d1, _, _, _, _, _, _, _, hf⟩ := h.cells
  obtain ⟨tv, g, V, ho⟩ := h.o.opened
  obtain ⟨m0, m1, m2, m3, m4, m5⟩ := six ho.m
  obtain ⟨p0, _, _, _⟩ := ho.l.cells hk
  have pf := ho.l.free
  have i2 : (0 : Int) ≤ (k : Int) := by omega
  have i3 : (k : Int) < (D.m.pn : Int) := by omega
  by_cases hl : (D.m.p k).l = -1
  · have E : lockD D d k q = ⟨setPc D.m k 1 d, { D.h with pos := q }, D.v⟩ := if_pos hl
    rw [E]
    have HL := Lib.hid (fun (w' : World) (hb : Below w.heap.size w w') => take_yes (w := w') (g := g) (o := k * 4) d ((hb.cell (p := ⟨g, k * 4, none⟩) ho.l.lt).trans (hl ▸ p0)) (by rw [(bcell hb).2 g (k * 4) ho.l.lt]; exact pf (k * 4)))
    clear hl E
    go_enter Tryz.func49, Tryz.ntmps49
    go_upto_region 0 with fail
    go_still_tail 14, (by kernel_rfl)
    change wpList _ _ _ _ _ w.drew
    have k0 := (Below.refl w.heap.size w).drew
    generalize w.drew = w0 at k0 ⊢
    go_wp2_with fail
    go_at_call 78; refine (HL.out _ k0).mono ?_; rintro e w2 ⟨rfl, w1, hb, hw⟩
    subst hw
    replace hb := k0.trans (hb.mono k0.size)
    have h1 := h.below hb
    have o1 := ho.below hb
    have k1 : Wd B w w1 := .of_new hb hB
    obtain ⟨cs, hcs⟩ := o1.l.hh
    have h2 := h1.mem (heap_set1 w1 g _ _ db (ne_ty h1.e hcs (by decide))) (o1.setL hk d).own
    have k2 := k1.set hcs o1.l.1 (by decide) (k * 4) (.int .i64 d)
    clear h ho h1 o1 hcs k1 hb d0 d1 m0 m1 m2 m3 m4 m5 p0 pf hf
    generalize w1.setCell ⟨g, k * 4, none⟩ (.int .i64 d) = w2 at h2 k2 ⊢
    obtain ⟨d0, d1, d2, _, _, _, _, _, _, hf⟩ := h2.cells
    have h3 := h2.setPos q
    have k3 := k2.setD h2 2 (.int .i64 q)
    clear h2 k2
    go_wp2
    go_end0
    exact ⟨rfl, h3, k3⟩
  · have E : lockD D d k q = D := if_neg hl
    rw [E]
    have HL := Lib.hid (fun (w' : World) (hb : Below w.heap.size w w') => take_no (w := w') (g := g) (o := k * 4) d hl ((hb.cell (p := ⟨g, k * 4, none⟩) ho.l.lt).trans p0) (by rw [(bcell hb).2 g (k * 4) ho.l.lt]; exact pf (k * 4)))
    clear hl E
    go_enter Tryz.func49, Tryz.ntmps49
    go_upto_region 0 with fail
    go_still_tail 14, (by kernel_rfl)
    change wpList _ _ _ _ _ w.drew
    have k0 := (Below.refl w.heap.size w).drew
    generalize w.drew = w0 at k0 ⊢
    go_wp2_with fail
    go_at_call 78; refine (HL.out _ k0).mono ?_; rintro e w1 ⟨rfl, hb⟩
    replace hb := k0.trans (hb.mono k0.size)
    have h1 := h.below hb
    have k1 : Wd B w w1 := .of_new hb hB
    go_wp2
    go_end0
    exact ⟨rfl, h1, k1⟩

set_option maxRecDepth 100000 in
set_option maxHeartbeats 2000000 in
theorem replyArmed_any {w : World} {B mb db : Nat} {a b c d : Int} {D : Dn} (hB : B ≤ w.heap.size) (h : DeedX w B mb db a b c d D) :
    Calls Tryz.prog 53 #[ptrV db] w fun e w' => e = .returned (.tuple #[]) ∧ InD B mb db a b c d ⟨D.m, if D.h.call.code = 3 then restHd 3 0 else restHd 1 (maxI D.h.tim 0), D.v⟩ w w' := by
  obtain ⟨_, _, _, d3, _, _, _, d7, _, hf⟩ := h.cells
  have H := Lib.hid (fun r o => reply_any r o hB h)
  clear h
  by_cases hc : D.h.call.code = 3
  · rw [if_pos hc]
    have hc1 : (D.h.call.code == 3) = true := by simpa using hc
    clear hc
    go_enter Tryz.func53, Tryz.ntmps53
    go_wp2_with (go_at_call 76; refine (H.out _ _).mono ?_; rintro e w1 ⟨rfl, hi⟩)
    first | go_end0 | refine bodyPost_ret (results_none rfl _ _ _) rfl ?_
    exact ⟨rfl, hi⟩
  · rw [if_neg hc]
    have hc1 : (D.h.call.code == 3) = false := by simpa using hc
    clear hc
    by_cases ht : D.h.tim < 0
    · have em : maxI D.h.tim 0 = 0 := by unfold maxI; split <;> omega
      have ht1 : decide (D.h.tim < 0) = true := by simpa using ht
      rw [em]
      go_enter Tryz.func53, Tryz.ntmps53
      go_wp2_with (go_at_call 76; refine (H.out _ _).mono ?_; rintro e w1 ⟨rfl, hi⟩)
      first | go_end0 | refine bodyPost_ret (results_none rfl _ _ _) rfl ?_
      exact ⟨rfl, hi⟩
    · have em : maxI D.h.tim 0 = D.h.tim := by unfold maxI; split <;> omega
      have ht1 : decide (D.h.tim < 0) = false := by simpa using ht
      rw [em]
      go_enter Tryz.func53, Tryz.ntmps53
      go_wp2_with (go_at_call 76; refine (H.out _ _).mono ?_; rintro e w1 ⟨rfl, hi⟩)
      first | go_end0 | refine bodyPost_ret (results_none rfl _ _ _) rfl ?_
      exact ⟨rfl, hi⟩

end Go.Proofs.YtflekodaiejflaaGreat

/-
  A memory, copied; and later (spec, chapter 5).
-/
namespace Go.Proofs.YtflekodaiejflaaGreat
open Go.RowKit Go.Joins
set_option linter.unusedVariables false
set_option linter.unusedSimpArgs false

theorem OwnRow.set4 {w : World} {B n b : Nat} {v : Value} {f : Slots} (h : OwnRow w B v n f) (hb : b < B) (x y z u : Value) :
    OwnRow ((((w.setCell ⟨b, 0, none⟩ x).setCell ⟨b, 1, none⟩ y).setCell ⟨b, 2, none⟩ z).setCell ⟨b, 3, none⟩ u) B v n f := (((h.set hb 0 x).set hb 1 y).set hb 2 z).set hb 3 u
theorem b_set4 {W w : World} {n g : Nat} (h : Below n W w) (hg : n ≤ g) (x y z u : Value) : Below n W ((((w.setCell ⟨g, 0, none⟩ x).setCell ⟨g, 1, none⟩ y).setCell ⟨g, 2, none⟩ z).setCell ⟨g, 3, none⟩ u) :=
  (((h.setCell (p := ⟨g, 0, none⟩) hg x).setCell (p := ⟨g, 1, none⟩) hg y).setCell (p := ⟨g, 2, none⟩) hg z).setCell (p := ⟨g, 3, none⟩) hg u

set_option maxRecDepth 100000 in
set_option maxHeartbeats 2000000 in
theorem l4Copy_any {v : Value} {n : Nat} {f : Slots} (l e d : Int) {w : World} (hn : n ≤ 1048576) (h : RowAt w v n f) :
    Calls Tryz.prog 42 #[prV v l e d] w fun x w' => ∃ u, x = .returned (prV u l e d) ∧ OwnRow w' w.heap.size u n f ∧ Below w.heap.size w w' := by
  have k0 := (Below.refl w.heap.size w).alloc (Nat.le_refl _) (.cells #[v, .int .i64 l, .int .i64 e, .int .i64 d] 87)
  have e0 : (w.alloc (.cells #[v, .int .i64 l, .int .i64 e, .int .i64 d] 87)).heap.size = w.heap.size + 1 := by simp
  have k1 := k0.alloc k0.size (.cells #[.slice none 0 0, .int .i64 0, .int .i64 0, .int .i64 0] 87)
  have hA := alloc_block (.cells #[.slice none 0 0, .int .i64 0, .int .i64 0, .int .i64 0] 87) (heap_alloc_new w (.cells #[v, .int .i64 l, .int .i64 e, .int .i64 d] 87))
  have hR := heap_alloc_new (w.alloc (.cells #[v, .int .i64 l, .int .i64 e, .int .i64 d] 87)) (.cells #[.slice none 0 0, .int .i64 0, .int .i64 0, .int .i64 0] 87)
  rw [e0] at hR
  have lA := lt_of_block hA
  have lR := lt_of_block hR
  have HR := Lib.hid (h.below k1)
  obtain ⟨va, vc, hv⟩ := h.form
  clear h
  subst hv
  go_enter Tryz.func42, Tryz.ntmps42
  go_wp2_with fail
  go_at_call 71; refine (l2Copy_any hn HR.out).mono ?_; rintro x w1 ⟨u, rfl, hO, hb⟩
  have hA1 := b_block hb hA lA
  have hR1 := b_block hb hR lR
  have k2 := k1.trans (hb.mono k1.size)
  replace hO := hO.mono (B' := w.heap.size + 1 + 1) (by simp)
  obtain ⟨ua, uc, hu⟩ := hO.row.form
  obtain ⟨a0, a1, a2, a3, af0, af1, af2, af3⟩ := four hA1
  obtain ⟨r0, r1, r2, r3, rf0, rf1, rf2, rf3⟩ := four hR1
  have k3 := k2.setCell (p := ⟨w.heap.size, 0, none⟩) (Nat.le_refl _) u
  have hO2 := hO.set (b := w.heap.size) (by omega) 0 u
  clear hb hA hR HR k0 k1 hA1 hR1 e0 lA lR hO
  subst hu
  go_wp2
  exact bodyPost_ret (v := prV (.slice ua n uc) l e d) (by simp [results, Tryz.results42, go_sem, r0, r1, r2, r3]) rfl ⟨_, rfl, (hO2.set4 (by omega) _ _ _ _).mono (by omega), b_set4 k3 (Nat.le_succ _) _ _ _ _⟩

theorem ne_of_type {w : World} {g b : Nat} {cs cs' : Array Value} {t t' : TypeId} (h : w.heap[g]? = some (.cells cs t (0, 0))) (h' : w.heap[b]? = some (.cells cs' t' (0, 0))) (hn : t ≠ t') : g ≠ b := by
  rintro rfl
  rw [h] at h'
  injection h' with h'
  injection h' with _ h2 _
  exact hn h2
theorem OwnTRow.setMem {w : World} {B b n : Nat} {v : Value} {f : Tms} {cs : Array Value} (h : OwnTRow w B v n f) (hz : w.heap[b]? = some (.cells cs 36 (0, 0))) (x y z : Value) :
    OwnTRow (((w.setCell ⟨b, 0, none⟩ x).setCell ⟨b, 1, none⟩ y).setCell ⟨b, 2, none⟩ z) B v n f := by
  rcases h with h | ⟨g, cap, e, h⟩
  · exact .inl h
  · have hne : g ≠ b := by
      obtain ⟨_, _, _, cur, hh, _⟩ := h
      exact ne_of_type hh hz (by decide)
    exact .inr ⟨g, cap, e, h.block ((Below.heap_setCell _ ⟨b, 2, none⟩ z g hne).trans ((Below.heap_setCell _ ⟨b, 1, none⟩ y g hne).trans (Below.heap_setCell _ ⟨b, 0, none⟩ x g hne)))⟩
theorem OwnPIn.own {w : World} {B C m : Nat} {v : Value} {P : Pcs} (h : OwnPIn w B C v m P) : OwnPRow w B v m P := by
  rcases h with h | ⟨g, cap, V, e, h, _⟩
  · exact .inl h
  · exact .inr ⟨g, cap, V, e, h⟩
theorem OwnTIn.setM {w : World} {B C b n : Nat} {v : Value} {f : Tms} {cs : Array Value} (h : OwnTIn w B C v n f) (hz : w.heap[b]? = some (.cells cs 36 (0, 0))) (o : Nat) (x : Value) :
    OwnTIn (w.setCell ⟨b, o, none⟩ x) B C v n f := by
  rcases h with h | ⟨g, cap, e, h, hC⟩
  · exact .inl h
  · have hne : g ≠ b := by
      obtain ⟨_, _, _, cur, hh, _⟩ := h
      exact ne_of_type hh hz (by decide)
    exact .inr ⟨g, cap, e, h.block (Below.heap_setCell _ ⟨b, o, none⟩ x g hne), hC⟩
theorem OwnTRow.innAt {w : World} {B C n : Nat} {v : Value} {f : Tms} (h : OwnTRow w B v n f) (hC : C = w.heap.size) : OwnTIn w B C v n f := by
  subst hC
  rcases h with h | ⟨g, cap, e, h⟩
  · exact .inl h
  · exact .inr ⟨g, cap, e, h, h.lt⟩
theorem OwnTIn.own {w : World} {B C n : Nat} {v : Value} {f : Tms} (h : OwnTIn w B C v n f) : OwnTRow w B v n f := by
  rcases h with h | ⟨g, cap, e, h, _⟩
  · exact .inl h
  · exact .inr ⟨g, cap, e, h⟩
theorem OwnMem.setM {w : World} {B b : Nat} {tv pv : Value} {N : Me} {cs : Array Value} (h : OwnMem w B tv pv N) (hz : w.heap[b]? = some (.cells cs 36 (0, 0))) (o : Nat) (x : Value) : OwnMem (w.setCell ⟨b, o, none⟩ x) B tv pv N := by
  have s := (KeepsBut.refl [36] w).set hz (by decide) o x
  exact ⟨(h.inn.1.keeps s (by decide)).own, (h.inn.2.keeps s (by decide) (by decide)).own⟩
theorem OwnRow.block_ge {w : World} {B n : Nat} {v : Value} {f : Slots} (h : OwnRow w B v n f) : ∀ x, v.ownBlock = some x → B ≤ x := by
  intro x hx
  rcases h with ⟨_, rfl⟩ | ⟨g, cap, rfl, h⟩
  · simp [Value.ownBlock] at hx
  · simp [Value.ownBlock] at hx
    subst hx
    exact h.1
theorem block_set3 {w : World} {b : Nat} {x y z x' y' z' : Value} {t : TypeId} (h : w.heap[b]? = some (.cells #[x, y, z] t (0, 0))) :
    (((w.setCell ⟨b, 0, none⟩ x').setCell ⟨b, 1, none⟩ y').setCell ⟨b, 2, none⟩ z').heap[b]? = some (.cells #[x', y', z'] t (0, 0)) := block_setCell (i := 2) (block_setCell (i := 1) (block_setCell (i := 0) h x') y') z'

end Go.Proofs.YtflekodaiejflaaGreat
