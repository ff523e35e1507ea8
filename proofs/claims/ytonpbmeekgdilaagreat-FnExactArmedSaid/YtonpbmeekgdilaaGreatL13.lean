/-
  A law's memory that came in, opened; the rows of the exact laws on memories.
-/
import Derived.Test.YtonpbmeekgdilaaGreatL11
import Derived.Test.YtonpbmeekgdilaaGreatL02
import Derived.OpenShut
import Derived.ChangeOld
import Derived.Deep.SlicePairs
namespace Go.Proofs.YtonpbmeekgdilaaGreat
open Go.RowKit Go.Joins Go.ChangeShapes Go.WideShapes Go.ChangeAt Go.Deep
set_option linter.unusedVariables false

set_option maxRecDepth 100000 in
/-- a law's list of slots, read as a field -/
theorem slots_fieldM {H : Type} {enc : TypeId × Value → H} {W : World} {fuel : Nat} {v : Value} {y : DataW H × List MemPlace}
    (hf : DataW.trod enc Tryz.prog W 0 (fun _ => true) true fuel 63 [v] = some y) :
    ∃ (n : Nat) (f : Slots) (a : Option Addr) (cap : Nat), n ≤ maxLen ∧ v = .slice a n cap ∧ RowAt W v n f := by
  obtain ⟨a, len, cap, hv⟩ := slice_form Tryz.underlying63 hf
  simp at hv
  subst hv
  obtain ⟨y1, y2⟩ := y
  rcases Go.Deep.open_slice_pairs Tryz.underlying63 Tryz.underlying119 (by kernel_rfl) rfl rfl (by kernel_rfl) (by kernel_rfl) hf with ⟨hcs, _⟩ | ⟨x, l, c, m, k, V0, V1, D0, D1, P0, P1, hcs, _, hl, hm, hmm, _, hc⟩
  · simp at hcs
    obtain ⟨rfl, rfl, rfl⟩ := hcs
    exact ⟨0, fun _ => (0, 0), _, _, Nat.zero_le _, rfl, .inl ⟨rfl, _, _, rfl⟩⟩
  · simp at hcs
    obtain ⟨rfl, rfl, rfl⟩ := hcs
    simp at hmm
    subst hmm
    refine ⟨len, fun i => (intOf (V0 i), intOf (V1 i)), _, _, Nat.le_trans hl hm, rfl, ?_⟩
    rcases Nat.eq_zero_or_pos len with rfl | hp
    · exact .inl ⟨rfl, _, _, rfl⟩
    · obtain ⟨b, off, spot⟩ := x
      have hspot : spot = none := by
        have := (hc 0 (by omega)).1
        simpa [Addr.add] using World.cell?_spot this
      subst hspot
      refine .inr ⟨b, off, _, rfl, ?_, fun i hi => ?_⟩
      · have := (hc 0 (by omega)).1
        rw [Go.WideShapes.add_plain] at this
        exact World.block_lt_of_cell? W _ this
      · obtain ⟨h0, h1, t0, t1⟩ := hc i (by omega)
        rw [Go.WideShapes.add_plain] at h0 h1
        obtain ⟨x0, e0, _, _⟩ := DataW.trod_int Tryz.underlying2 t0
        obtain ⟨x1, e1, _, _⟩ := DataW.trod_int Tryz.underlying2 t1
        simp at e0 e1
        rw [e0] at h0
        rw [e1] at h1
        simp only [e0, e1]
        exact ⟨h0, by rw [Nat.add_assoc]; exact h1⟩

theorem eight_at {zs : List Int} (h : zs.length = 8) : ∃ t : Tm, ∀ j, j < 8 → (numsV zs)[j]? = some (.int .i64 (tmAt t j)) := by
  match zs, h with
  | [a, b, c, d, e, f, g, k], _ => exact ⟨⟨a, b, c, d, e, f, g, k⟩, below8 rfl rfl rfl rfl rfl rfl rfl rfl⟩

set_option maxRecDepth 100000 in
/-- a law's list of timers, read as a field -/
theorem timers_field {H : Type} {enc : TypeId × Value → H} {W : World} {fuel : Nat} {v : Value} {y : DataW H × List MemPlace}
    (hf : DataW.trod enc Tryz.prog W 0 (fun _ => true) true fuel 24 [v] = some y) :
    ∃ (n : Nat) (f : Tms), n ≤ maxLen ∧ RowTAt W v n f := by
  have c8 : Tryz.prog.cellsOf 79 = 8 := by kernel_rfl
  obtain ⟨y1, y2⟩ := y
  rcases Go.Deep.open_slice Tryz.underlying24 hf with ⟨hcs, _⟩ | ⟨x, len, cap, m, k, D, Pl, hcs, _, hl, hm, hmm, _, hc⟩
  · simp at hcs
    subst hcs
    exact ⟨0, fun _ => tm0, Nat.zero_le _, .inl ⟨rfl, _, _, rfl⟩⟩
  · simp at hcs hmm
    subst hcs hmm
    have each : ∀ i, i < m → ∃ t : Tm, ∀ j, j < 8 → W.cell? ((x.add (i * 8)).add j) = some (.int .i64 (tmAt t j)) := by
      intro i hi
      obtain ⟨cs', h1, h2⟩ := hc i hi
      rw [c8] at h1
      obtain ⟨_, hlen, hcell⟩ := World.cells?_some h1
      obtain ⟨zs, hz, rfl, _, _⟩ := trod_flat Tryz.underlying79 (I := 2) (by kernel_rfl) Tryz.underlying2 (by kernel_rfl) (by kernel_rfl) h2
      obtain ⟨t, ht⟩ := eight_at hz
      exact ⟨t, fun j hj => (hcell j (by omega)).trans (ht j hj)⟩
    haveI : Inhabited Tm := ⟨tm0⟩
    obtain ⟨f, hfx⟩ := choose_lt each
    refine ⟨len, f, Nat.le_trans hl hm, ?_⟩
    rcases Nat.eq_zero_or_pos len with rfl | hp
    · exact .inl ⟨rfl, _, _, rfl⟩
    · obtain ⟨b, off, spot⟩ := x
      have h00 := hfx 0 (by omega) 0 (by decide)
      have hspot : spot = none := by simpa [Addr.add] using World.cell?_spot h00
      subst hspot
      have h0 := h00
      rw [Go.WideShapes.add_plain, Go.WideShapes.add_plain] at h0
      refine .inr ⟨b, off, _, rfl, World.block_lt_of_cell? W _ h0, fun i hi j hj => ?_⟩
      have := hfx i (by omega) j hj
      rw [Go.WideShapes.add_plain, Go.WideShapes.add_plain] at this
      exact this

set_option maxRecDepth 100000 in
/-- a law's list of processors, read as a field -/
theorem procs_field {H : Type} {enc : TypeId × Value → H} {W : World} {fuel : Nat} {v : Value} {y : DataW H × List MemPlace}
    (hf : DataW.trod enc Tryz.prog W 0 (fun _ => true) true fuel 25 [v] = some y) :
    ∃ (m : Nat) (P : Pcs), m ≤ maxLen ∧ (∀ i, i < m → (P i).n ≤ maxLen) ∧ RowPAt W v m P := by
  have c4 : Tryz.prog.cellsOf 65 = 4 := by kernel_rfl
  obtain ⟨y1, y2⟩ := y
  rcases Go.Deep.open_slice Tryz.underlying25 hf with ⟨hcs, _⟩ | ⟨x, len, cap, m, k, D, Pl, hcs, _, hl, hm, hmm, _, hc⟩
  · simp at hcs
    subst hcs
    exact ⟨0, fun _ => pc0, Nat.zero_le _, fun i hi => by omega, .inl ⟨rfl, _, _, rfl⟩⟩
  · simp at hcs hmm
    subst hcs hmm
    have each : ∀ i, i < m → ∃ p : Pc, p.n ≤ maxLen ∧ ∃ a c, W.cell? ((x.add (i * 4)).add 0) = some (.slice a p.n c) ∧ W.cell? ((x.add (i * 4)).add 1) = some (.int .i64 p.l) ∧ W.cell? ((x.add (i * 4)).add 2) = some (.int .i64 p.e) ∧ W.cell? ((x.add (i * 4)).add 3) = some (.int .i64 p.d) ∧ RowAt W (.slice a p.n c) p.n p.f := by
      intro i hi
      obtain ⟨cs', h1, h2⟩ := hc i hi
      rw [c4] at h1
      obtain ⟨_, hlen, hcell⟩ := World.cells?_some h1
      obtain ⟨xs, n1, _, _, _, hxl, hfx⟩ := DataW.trod_struct Tryz.underlying65 h2
      match cs', hlen with
      | [u0, u1, u2, u3], _ =>
        have g0 := hfx 0 _ rfl
        have g1 := hfx 1 _ rfl
        have g2 := hfx 2 _ rfl
        have g3 := hfx 3 _ rfl
        match xs, hxl with
        | [z0, z1, z2, z3], _ =>
          have k0 : Tryz.prog.cellsOf 63 = 1 := by kernel_rfl
          have k1 : Tryz.prog.cellsOf 2 = 1 := by kernel_rfl
          simp [k0, k1] at g0 g1 g2 g3
          obtain ⟨n, f, a, c, hn, rfl, hr⟩ := slots_fieldM g0
          obtain ⟨x1, e1, _, _⟩ := DataW.trod_int Tryz.underlying2 g1
          obtain ⟨x2, e2, _, _⟩ := DataW.trod_int Tryz.underlying2 g2
          obtain ⟨x3, e3, _, _⟩ := DataW.trod_int Tryz.underlying2 g3
          simp at e1 e2 e3
          subst e1 e2 e3
          exact ⟨⟨n, f, x1, x2, x3⟩, hn, a, c, hcell 0 (by omega), hcell 1 (by omega), hcell 2 (by omega), hcell 3 (by omega), hr⟩
    haveI : Inhabited Pc := ⟨pc0⟩
    obtain ⟨P, hP⟩ := choose_lt each
    refine ⟨len, P, Nat.le_trans hl hm, fun i hi => (hP i (by omega)).1, ?_⟩
    rcases Nat.eq_zero_or_pos len with rfl | hp
    · exact .inl ⟨rfl, _, _, rfl⟩
    · obtain ⟨b, off, spot⟩ := x
      obtain ⟨_, a0, c0, h00, _⟩ := hP 0 (by omega)
      have hspot : spot = none := by simpa [Addr.add] using World.cell?_spot h00
      subst hspot
      have h0 := h00
      rw [Go.WideShapes.add_plain, Go.WideShapes.add_plain] at h0
      refine .inr ⟨b, off, _, rfl, World.block_lt_of_cell? W _ h0, fun i hi => ?_⟩
      obtain ⟨_, a, c, g0, g1, g2, g3, hr⟩ := hP i (by omega)
      rw [Go.WideShapes.add_plain, Go.WideShapes.add_plain] at g0 g1 g2 g3
      exact ⟨a, c, g0, g1, g2, g3, hr⟩

set_option maxRecDepth 100000 in
/-- a law's memory that came in -/
theorem mem_in {H : Type} {enc : TypeId × Value → H} {W : World} {base : Nat} {v : Value} {d : DataW H} {p : List MemPlace}
    (hv : Value.okWide Tryz.prog W .any base 27 v) (h : DataW.Trod enc Tryz.prog W 0 (fun _ => true) true 27 v d p) :
    ∃ (tv pv : Value) (M : Me), v = meV M.c tv pv ∧ M.tn ≤ maxLen ∧ M.pn ≤ maxLen ∧ (∀ i, i < M.pn → (M.p i).n ≤ maxLen) ∧ MemAt W tv pv M := by
  obtain ⟨c0, tv, pv, y0, y1, y2, m, rfl, _, _, h0, h1, h2⟩ := open_agg3 Tryz.underlying27 (by kernel_rfl) (by kernel_rfl) hv h
  obtain ⟨x, e0, _, _⟩ := DataW.trod_int Tryz.underlying2 h0
  simp at e0
  subst e0
  obtain ⟨tn, t, htn, hT⟩ := timers_field h1
  obtain ⟨pn, P, hpn, hn, hP⟩ := procs_field h2
  exact ⟨tv, pv, ⟨x, tn, t, pn, P⟩, rfl, htn, hpn, hn, hT, hP⟩

set_option maxRecDepth 100000 in
/-- a law's plan that came in -/
theorem plan_inM {H : Type} {enc : TypeId × Value → H} {W : World} {base : Nat} {v : Value} {d : DataW H} {p : List MemPlace}
    (hv : Value.okWide Tryz.prog W .any base 23 v) (h : DataW.Trod enc Tryz.prog W 0 (fun _ => true) true 23 v d p) :
    ∃ a b c : Int, v = .agg #[.int .i64 a, .int .i64 b, .int .i64 c] := by
  obtain ⟨c0, c1, c2, y0, y1, y2, m, rfl, _, _, h0, h1, h2⟩ := open_agg3 Tryz.underlying23 (by kernel_rfl) (by kernel_rfl) hv h
  obtain ⟨x, e1, _, _⟩ := DataW.trod_int Tryz.underlying2 h0
  obtain ⟨y, e2, _, _⟩ := DataW.trod_int Tryz.underlying2 h1
  obtain ⟨z, e3, _, _⟩ := DataW.trod_int Tryz.underlying2 h2
  simp at e1 e2 e3
  subst e1 e2 e3
  exact ⟨x, y, z, rfl⟩

end Go.Proofs.YtonpbmeekgdilaaGreat
