/-
  CreateStep, in the program (chapter 9).
-/
import Derived.Test.YtflekodaiejflaaGreatL16
import Derived.Test.YtflekodaiejflaaGreatL18
import Derived.Test.YtflekodaiejflaaGreatL19
namespace Go.Proofs.YtflekodaiejflaaGreat
open Go.Deep Go.RowKit Go.Joins
set_option linter.unusedVariables false
set_option linter.unusedSimpArgs false

theorem enter_create (args : Array Value) (w : World) : (callFunc 24 args).run Tryz.prog w = .ok (.enter 24 args) w := by
  simp [callFunc, Tryz.func24, Tryz.f24]

theorem try_create (a b c d : Int) (h : Hd) {tv pv : Value} {M : Me} {w : World} (hs : sizeM M ≤ 1048576) (hm : MemAt w tv pv M) :
    Calls Tryz.prog 23 #[.agg #[.int .i64 a, .int .i64 b, .int .i64 c], meV M.c tv pv, .int .i64 d, hdV h, .func (.func 24) #[] #[]] w (NewDn (createG a b c d M h) (createQ a b c d M h) w) := by
  have hz := createG_size a b c d M h
  unfold createG createQ at *
  cases hf : stepFit a b c d M h
  · exact tryStep_unfit _ enter_create a b c d h hs hm hf
  · cases hq : (inB h.pos 1 4 && createB ⟨M, h, et0⟩)
    · exact tryStep_no _ enter_create a b c d h hs hm (N := createD c d (homeN a d) ⟨M, h, et0⟩) (Lib.hid (fun W B mb db kW hB hD => by have := create_does hf hB hD; rw [hq] at this; exact this)) hf
    · rw [hf, hq] at hz
      exact tryStep_yes _ enter_create a b c d h hs hm (N := createD c d (homeN a d) ⟨M, h, et0⟩) hz (Lib.hid (fun W B mb db kW hB hD => by have := create_does hf hB hD; rw [hq] at this; exact this)) hf

set_option maxRecDepth 100000 in
set_option maxHeartbeats 8000000 in
theorem imCreateStep_any : AsksCreateStep createG createQ 9 := by
  intro a b c d h tv pv M w hs hm
  obtain ⟨N, hN⟩ : ∃ N, N = createG a b c d M h := ⟨_, rfl⟩
  obtain ⟨q, hq⟩ : ∃ q, q = createQ a b c d M h := ⟨_, rfl⟩
  have HT := Lib.hid (fun (tv pv : Value) (w : World) (hm : MemAt w tv pv M) => try_create a b c d h hs hm)
  rw [← hN, ← hq] at HT ⊢
  clear hN hq
  obtain ⟨va, vc, qa, qc, rfl, rfl⟩ := hm.form
  have k0 := (((((Below.refl w.heap.size w).alloc (Nat.le_refl _) (.cells #[.int .i64 a, .int .i64 b, .int .i64 c] 46)).alloc (by simp) (memO M.c (.slice va M.tn vc) (.slice qa M.pn qc) 36)).alloc (by simp; omega) (.cells (hdCells h) 39)).alloc (by simp; omega) (.cells #[.int .i64 0, .slice none 0 0, .slice none 0 0, .int .i64 0, .int .i64 0, .int .i64 0, .int .i64 0, .int .i64 0, .int .i64 0, .int .i64 0, .bool false, .int .i64 0, .int .i64 0, .int .i64 0, .int .i64 0, .int .i64 0, .int .i64 0, .int .i64 0, .int .i64 0, .int .i64 0] 43))
  have hP := alloc_block (.cells #[.int .i64 0, .slice none 0 0, .slice none 0 0, .int .i64 0, .int .i64 0, .int .i64 0, .int .i64 0, .int .i64 0, .int .i64 0, .int .i64 0, .bool false, .int .i64 0, .int .i64 0, .int .i64 0, .int .i64 0, .int .i64 0, .int .i64 0, .int .i64 0, .int .i64 0, .int .i64 0] 43) (alloc_block (.cells (hdCells h) 39) (alloc_block (memO M.c (.slice va M.tn vc) (.slice qa M.pn qc) 36) (heap_alloc_new w (.cells #[.int .i64 a, .int .i64 b, .int .i64 c] 46))))
  have hX := heap_alloc_new (w.alloc (.cells #[.int .i64 a, .int .i64 b, .int .i64 c] 46)) (memO M.c (.slice va M.tn vc) (.slice qa M.pn qc) 36)
  rw [show (w.alloc (.cells #[.int .i64 a, .int .i64 b, .int .i64 c] 46)).heap.size = w.heap.size + 1 by simp] at hX
  replace hX := alloc_block (.cells #[.int .i64 0, .slice none 0 0, .slice none 0 0, .int .i64 0, .int .i64 0, .int .i64 0, .int .i64 0, .int .i64 0, .int .i64 0, .int .i64 0, .bool false, .int .i64 0, .int .i64 0, .int .i64 0, .int .i64 0, .int .i64 0, .int .i64 0, .int .i64 0, .int .i64 0, .int .i64 0] 43) (alloc_block (.cells (hdCells h) 39) hX)
  have hH := heap_alloc_new ((w.alloc (.cells #[.int .i64 a, .int .i64 b, .int .i64 c] 46)).alloc (memO M.c (.slice va M.tn vc) (.slice qa M.pn qc) 36)) (.cells (hdCells h) 39)
  rw [show ((w.alloc (.cells #[.int .i64 a, .int .i64 b, .int .i64 c] 46)).alloc (memO M.c (.slice va M.tn vc) (.slice qa M.pn qc) 36)).heap.size = w.heap.size + 1 + 1 by simp] at hH
  replace hH := alloc_block (.cells #[.int .i64 0, .slice none 0 0, .slice none 0 0, .int .i64 0, .int .i64 0, .int .i64 0, .int .i64 0, .int .i64 0, .int .i64 0, .int .i64 0, .bool false, .int .i64 0, .int .i64 0, .int .i64 0, .int .i64 0, .int .i64 0, .int .i64 0, .int .i64 0, .int .i64 0, .int .i64 0] 43) hH
  have hR := heap_alloc_new (((w.alloc (.cells #[.int .i64 a, .int .i64 b, .int .i64 c] 46)).alloc (memO M.c (.slice va M.tn vc) (.slice qa M.pn qc) 36)).alloc (.cells (hdCells h) 39)) (.cells #[.int .i64 0, .slice none 0 0, .slice none 0 0, .int .i64 0, .int .i64 0, .int .i64 0, .int .i64 0, .int .i64 0, .int .i64 0, .int .i64 0, .bool false, .int .i64 0, .int .i64 0, .int .i64 0, .int .i64 0, .int .i64 0, .int .i64 0, .int .i64 0, .int .i64 0, .int .i64 0] 43)
  rw [show (((w.alloc (.cells #[.int .i64 a, .int .i64 b, .int .i64 c] 46)).alloc (memO M.c (.slice va M.tn vc) (.slice qa M.pn qc) 36)).alloc (.cells (hdCells h) 39)).heap.size = w.heap.size + 1 + 1 + 1 by simp] at hR
  have HM := Lib.hid (hm.below k0)
  have s0 : ((((w.alloc (.cells #[.int .i64 a, .int .i64 b, .int .i64 c] 46)).alloc (memO M.c (.slice va M.tn vc) (.slice qa M.pn qc) 36)).alloc (.cells (hdCells h) 39)).alloc (.cells #[.int .i64 0, .slice none 0 0, .slice none 0 0, .int .i64 0, .int .i64 0, .int .i64 0, .int .i64 0, .int .i64 0, .int .i64 0, .int .i64 0, .bool false, .int .i64 0, .int .i64 0, .int .i64 0, .int .i64 0, .int .i64 0, .int .i64 0, .int .i64 0, .int .i64 0, .int .i64 0] 43)).heap.size = w.heap.size + 1 + 1 + 1 + 1 := by simp
  clear hm
  go_enter Tryz.func9, Tryz.ntmps9
  go_upto_region 1 with fail
  generalize (((w.alloc (.cells #[.int .i64 a, .int .i64 b, .int .i64 c] 46)).alloc (memO M.c (.slice va M.tn vc) (.slice qa M.pn qc) 36)).alloc (.cells (hdCells h) 39)).alloc (.cells #[.int .i64 0, .slice none 0 0, .slice none 0 0, .int .i64 0, .int .i64 0, .int .i64 0, .int .i64 0, .int .i64 0, .int .i64 0, .int .i64 0, .bool false, .int .i64 0, .int .i64 0, .int .i64 0, .int .i64 0, .int .i64 0, .int .i64 0, .int .i64 0, .int .i64 0, .int .i64 0] 43) = w1 at k0 hP hX hH hR HM s0 ⊢
  obtain ⟨p0, p1, p2, _, _, _⟩ := three hP
  obtain ⟨x0, x1, x2, _, _, _⟩ := three hX
  obtain ⟨h0, h1, h2, h3, h4, h5, h6, h7, h8, h9, h10, h11, _⟩ := twelve hH
  go_wp2_with fail
  go_at_call 23; refine (HT.out _ _ _ HM.out).mono ?_; rintro e w4 ⟨t4, p4, rfl, hO, hb⟩
  have lR := lt_of_block hR
  replace hR := b_block hb hR lR
  have k4 := k0.trans (hb.mono k0.size)
  clear p0 p1 p2 x0 x1 x2 h0 h1 h2 h3 h4 h5 h6 h7 h8 h9 h10 h11 hP hX hH HM k0 hb
  obtain ⟨ta, tc, pa, pc, ht, hp⟩ := hO.at.form
  subst ht hp
  obtain ⟨cs, hcs⟩ : ∃ cs : Array Value, dnCells N (.slice ta N.m.tn tc) (.slice pa N.m.pn pc) = cs := ⟨_, rfl⟩
  rw [show dnV N (.slice ta N.m.tn tc) (.slice pa N.m.pn pc) = Value.agg cs from congrArg Value.agg hcs]
  have hsz : cs.size = 20 := by { rw [← hcs]; rfl }
  have hone : cs.all (·.oneCell') = true := by { rw [← hcs]; simp [Value.oneCell'] }
  have hst := run_store_letter (P := Tryz.prog) hsz hone w4 (w.heap.size + 1 + 1 + 1) (there_of_cells hR)
  have hR5 := heap_setCells (cs := cs) hR hsz
  have hO5 := OwnMemIn.own (hO.setCells cs.toList hR)
  have k5 := b_setCells (b := w.heap.size + 1 + 1 + 1) (n := w.heap.size) (by omega) cs.toList 0 k4
  clear hR hO k4
  go_wp2
  exact bodyPost_ret (results_pair (cs := cs.toList) rfl rfl rfl (range_of_block hR5) Tryz.underlying43 rfl (by rw [done_info]; simp [hsz])) rfl ⟨_, _, by rw [← hcs]; rfl, hO5.mono (by omega), k5⟩

end Go.Proofs.YtflekodaiejflaaGreat
