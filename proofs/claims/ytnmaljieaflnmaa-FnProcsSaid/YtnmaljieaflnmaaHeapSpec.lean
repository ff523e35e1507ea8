/-
  The model's own functions on heaps (spec, chapter 2): what each answers.
-/
import Derived.Test.YtnmaljieaflnmaaSlots
import Derived.OwnWalk
namespace Go.Proofs.Ytnmaljieaflnmaa
open Go.RowKit Go.Joins
set_option linter.unusedVariables false

/-! ### append onto a list of the call's own, from a list that is read -/
theorem slot_info : (Try.prog.info? 35).map (fun i => (i.zero, i.size, i.bytes)) = some (some (.agg #[.int .i64 0, .int .i64 0]), 2, 16) := by kernel_rfl

theorem run_append_slots (w : World) (B : Nat) (ty : TypeId) (v : Value) (n : Nat) (f : Slots) (hown : w.ownsRow B 35 2 v n (cellsF f n)) (x : Value) (m : Nat) (h : Slots) (hx : RowAt w x m h) (hn : n + m ≤ 4194304) (hB : B ≤ w.heap.size) :
    ∃ v' w', (Builtin.append_ #[26, 26] ty #[v, x]).run Try.prog w = .ok v' w' ∧ w'.ownsRow B 35 2 v' (n + m) (cellsF f n ++ cellsF h m) ∧ w.grownBy w' v.ownBlock ∧ (v'.ownBlock = v.ownBlock ∨ v'.ownBlock = some w.heap.size) := by
  obtain ⟨i0, hi, hz, hs, hby⟩ := info_parts slot_info
  have hbytes : (n + m) * 16 ≤ 140737488355328 := by omega
  have h63 : n + m ≤ maxLen := by unfold maxLen; omega
  rcases hx with ⟨rfl, a, cap, rfl⟩ | ⟨b, off, cap, rfl, hl, hc⟩
  · rcases a with _ | ad
    · refine ⟨v, w, ?_, by simpa [cellsF] using hown, g_refl w _, .inl rfl⟩
      rcases hown.2 with ⟨rfl, rfl⟩ | ⟨g, cap', cur, rfl, _, _, hnc, _⟩
      · simp [Builtin.append_, run_underlying Try.underlying26, sizeOf, typeInfo, hi, Builtin.lenOf, Builtin.firstCells]
      · simp [Builtin.append_, run_underlying Try.underlying26, sizeOf, typeInfo, hi, Builtin.lenOf, Builtin.firstCells, hnc, storeCells]
    · obtain ⟨v', w', hrun, h2, h3, _, h5⟩ := run_append_own_at (P := Try.prog) w B 26 ty 35 i0 _ 2 16 Try.underlying26 hi hz hs hby rfl (by decide) v n _ hown ad 0 cap [] rfl (by simp) (by simp) h63 hbytes hB
      exact ⟨v', w', hrun, by simpa [cellsF] using h2, h3, h5⟩
  · obtain ⟨v', w', hrun, h2, h3, _, h5⟩ := run_append_own_at (P := Try.prog) w B 26 ty 35 i0 _ 2 16 Try.underlying26 hi hz hs hby rfl (by decide) v n _ hown ⟨b, off, none⟩ m cap (cellsF h m) (cellsF_length h m)
      (fun j u hu => by
        obtain ⟨i, hi, ⟨rfl, rfl⟩ | ⟨rfl, rfl⟩⟩ := cellsF_at h m j u hu
        · rw [Go.WideShapes.add_plain]; exact (hc i hi).1
        · rw [Go.WideShapes.add_plain, ← Nat.add_assoc]; exact (hc i hi).2) (cellsF_one h m) h63 hbytes hB
    exact ⟨v', w', hrun, h2, h3, h5⟩

theorem wp_append_slots {o : Oper} {a : Act} {K : Act → World → Prop} {Q : Exit → Act → World → Prop} {w : World} (s x : Operand)
    (ho : o.op = .call { callee := .builtin .append, args := #[s, x], argTypes := #[26, 26] })
    (B : Nat) (v : Value) (n : Nat) (f : Slots) (hs : a.eval s = v) (hown : w.ownsRow B 35 2 v n (cellsF f n)) (y : Value) (m : Nat) (h : Slots) (hx : a.eval x = y) (hrow : RowAt w y m h) (hn : n + m ≤ 4194304) (hB : B ≤ w.heap.size)
    (hK : ∀ v' w', w'.ownsRow B 35 2 v' (n + m) (cellsF f n ++ cellsF h m) → w.grownBy w' v.ownBlock → (v'.ownBlock = v.ownBlock ∨ v'.ownBlock = some w.heap.size) → K (a.put o.dst v') w') : o.wp Try.prog a w K Q := by
  obtain ⟨v', w', hr, h2, h3, h4⟩ := run_append_slots w B o.type v n f hown y m h hrow hn hB
  unfold Oper.wp execOp
  simp only [ho, resolve, invoke, builtin, Sem.run_bind, Sem.run_pure, Result.andThen_ok, List.map_toArray, List.map_cons, List.map_nil, hs, hx, hr]
  exact hK v' w' h2 h3 h4
theorem wpList_append_slots {ops : Array Oper} {rest : List Oper} {o : Oper} {a : Act} {Q : Exit → Act → World → Prop} {w : World} (hgd : o.guard = none) (s x : Operand)
    (ho : o.op = .call { callee := .builtin .append, args := #[s, x], argTypes := #[26, 26] })
    (B : Nat) (v : Value) (n : Nat) (f : Slots) (hs : a.eval s = v) (hown : w.ownsRow B 35 2 v n (cellsF f n)) (y : Value) (m : Nat) (h : Slots) (hx : a.eval x = y) (hrow : RowAt w y m h) (hn : n + m ≤ 4194304) (hB : B ≤ w.heap.size)
    (hK : ∀ v' w', w'.ownsRow B 35 2 v' (n + m) (cellsF f n ++ cellsF h m) → w.grownBy w' v.ownBlock → (v'.ownBlock = v.ownBlock ∨ v'.ownBlock = some w.heap.size) → wpList Try.prog ops Q rest (a.put o.dst v') w') : wpList Try.prog ops Q (o :: rest) a w :=
  wpList_plain hgd fun _ hK' => wp_append_slots s x ho B v n f hs hown y m h hx hrow hn hB fun v' w' h2 h3 h4 => hK' _ _ (hK v' w' h2 h3 h4)
theorem step_append_slots {ops : Array Oper} {o : Oper} {a : Act} {K : Act → World → Prop} {Q : Exit → Act → World → Prop} {E : Prop} {w : World} (hgd : o.guard = none) (s x : Operand)
    (ho : o.op = .call { callee := .builtin .append, args := #[s, x], argTypes := #[26, 26] })
    (B : Nat) (v : Value) (n : Nat) (f : Slots) (hs : a.eval s = v) (hown : w.ownsRow B 35 2 v n (cellsF f n)) (y : Value) (m : Nat) (h : Slots) (hx : a.eval x = y) (hrow : RowAt w y m h) (hn : n + m ≤ 4194304) (hB : B ≤ w.heap.size)
    (hK : ∀ v' w', w'.ownsRow B 35 2 v' (n + m) (cellsF f n ++ cellsF h m) → w.grownBy w' v.ownBlock → (v'.ownBlock = v.ownBlock ∨ v'.ownBlock = some w.heap.size) → K (a.put o.dst v') w') :
    if Region.wanted o (yielded ops a.tmps) = true then Oper.wp Try.prog o a w K Q else E := by
  have hw : Region.wanted o (yielded ops a.tmps) = true := by simp [Region.wanted, hgd]
  rw [if_pos hw]
  exact wp_append_slots s x ho B v n f hs hown y m h hx hrow hn hB hK
theorem append_zero {f h : Slots} {n : Nat} : cellsF f 0 ++ cellsF h n = cellsF h n := rfl

theorem ret_i64 {a b : Int} (h : a = b) : Ending.returned (.int .i64 a) = .returned (.int .i64 b) := by rw [h]
theorem ret_bool {a b : Bool} (h : a = b) : Ending.returned (.bool a) = .returned (.bool b) := by rw [h]
/-- a call that makes a new list -/
def NewRow (n : Nat) (f : Slots) (w : World) (e : Ending) (w' : World) : Prop := ∃ v, e = .returned v ∧ OwnRow w' w.heap.size v n f ∧ Below w.heap.size w w'

set_option maxHeartbeats 400000 in
theorem l2Copy_any {v : Value} {n : Nat} {f : Slots} {w : World} (hn : n ≤ 1048576) (h : RowAt w v n f) :
    Calls Try.prog 128 #[v] w (NewRow n f w) := by
  have H := Lib.hid (h.below ((Below.refl _ _).alloc (Nat.le_refl _) (.cells #[] 35)))
  have ho := Lib.hid (World.ownsRow_made w (base := w.heap.size) (e := 35) (size := 2) #[] 0 (Nat.le_refl _) (Nat.zero_le _) rfl)
  clear h
  go_enter Try.func128, Try.ntmps128
  go_wp2_with (first | (at_builtin; refine wpList_append_slots rfl (.tmp 3) (.tmp 4) rfl w.heap.size (.slice (some ⟨w.heap.size, 0, none⟩) 0 0) 0 f rfl ho.out v n f rfl H.out (by omega) (by simp) ?_; intro v' w' hown hg hat))
  go_ret
  rw [append_zero, Nat.zero_add] at hown
  exact ⟨_, rfl, own_of_row hown, ((Below.refl _ _).alloc (Nat.le_refl _) _).trans (b_grown hg (Nat.le_refl _) (by simp))⟩

set_option maxHeartbeats 400000 in
theorem l2Has_any {v : Value} {n : Nat} (f : Slots) (i : Int) {w : World} (hn : n ≤ 1048576) (h : RowAt w v n f) :
    Calls Try.prog 140 #[v, .int .i64 i] w fun e w' => e = .returned (.bool (hasB n i)) ∧ w = w' := by
  obtain ⟨a, cap, rfl⟩ := h.form
  clear h
  go_enter Try.func140, Try.ntmps140
  go_wp2_with (go_at_call 56; refine (l1In_any _ _ _ _).mono ?_; rintro e w' ⟨rfl, rfl⟩)
  go_ret
  exact ⟨rfl, rfl⟩

set_option maxHeartbeats 400000 in
theorem spFindSlot_any {v : Value} {n : Nat} (f : Slots) (id : Int) {w : World} (hn : n ≤ 1048576) (h : RowAt w v n f) :
    Calls Try.prog 66 #[v, .int .i64 id] w fun e w' => e = .returned (.int .i64 (findFrom f n id 0)) ∧ w = w' := by
  rcases h with ⟨rfl, a, cap, rfl⟩ | ⟨b, off, cap, rfl, hl, hc⟩
  · rw [findFrom_out (Nat.lt_irrefl 0)]
    go_enter Try.func66, Try.ntmps66
    go_wp2
    go_loop [5] (fun i => i = .int .i64 0) (fun _ => 0)
    case atStart => rfl
    case round =>
      subst hrel
      go_wp2
      go_ret
      exact ⟨rfl, rfl⟩
  · have H := Lib.hid hc
    clear hc
    go_enter Try.func66, Try.ntmps66
    go_wp2
    go_loop [5] (fun i => ∃ k : Nat, k ≤ n ∧ i = .int .i64 k ∧ Hid (findFrom f n id 0 = findFrom f n id k)) (fun i => n - (intOf i).toNat)
    case atStart => exact ⟨0, Nat.zero_le _, rfl, Lib.hid rfl⟩
    case round =>
      obtain ⟨k, hk, rfl, hf⟩ := hrel
      by_cases hlt : k < n
      · have hck := (H.out k hlt).1
        by_cases he : (f k).1 = id
        · have hb : ((f k).1 == id) = true := by simpa using he
          have hfk := Lib.hid (hf.out.trans (findFrom_here hlt he))
          clear he hf
          go_wp2
          go_ret
          exact ⟨ret_i64 hfk.out.symm, rfl⟩
        · have hb : ((f k).1 == id) = false := by simpa using he
          have hfk := Lib.hid (hf.out.trans (findFrom_next hlt he))
          clear he hf
          go_wp2
          exact ⟨⟨k + 1, by omega, by go_num, hfk⟩, by simp [intOf]; omega⟩
      · have hfk := Lib.hid (hf.out.trans (findFrom_out hlt))
        clear hf
        go_wp2
        go_ret
        exact ⟨ret_i64 hfk.out.symm, rfl⟩

/-- a call that only reads -/
def ReadsB (x : Bool) (w : World) (e : Ending) (w' : World) : Prop := ∃ m, e = .returned (.bool x) ∧ w' = w.drewN m

set_option maxHeartbeats 400000 in
theorem spHeapOk_any {v : Value} {n : Nat} (f : Slots) {w : World} (hn : n ≤ 1048576) (h : RowAt w v n f) :
    Calls Try.prog 53 #[v] w (ReadsB (heapB f n) w) := by
  rcases h with ⟨rfl, a, cap, rfl⟩ | ⟨b, off, cap, rfl, hl, hc⟩
  · rw [show heapB f 0 = true by rw [heapB, heapFrom_out (by omega)]; rfl]
    go_enter Try.func53, Try.ntmps53
    go_wp2
    go_loop [3] (fun i => i = .int .i64 1) (fun _ => 0)
    case atStart => rfl
    case round =>
      subst hrel
      go_wp2
      go_ret
      exact ⟨0, rfl, rfl⟩
  · have H := Lib.hid hc
    clear hc
    go_enter Try.func53, Try.ntmps53
    go_wp2
    go_loopw [3] (fun i wr => ∃ k m : Nat, 1 ≤ k ∧ i = .int .i64 k ∧ wr = w.drewN m ∧ k ≤ n + 1 ∧ Hid (heapFrom f n 1 = heapFrom f n k)) (fun i _ => n + 1 - (intOf i).toNat)
    case atStart => exact ⟨1, 0, Nat.le_refl _, rfl, rfl, by omega, Lib.hid rfl⟩
    case round =>
      obtain ⟨k, m, hk1, rfl, rfl, hkn, hf⟩ := hrel
      by_cases hlt : k < n
      · have hck := (H.out k hlt).2
        have hcp := (H.out ((k - 1) / 4) (by omega)).2
        have e1 : IntKind.i64.wrap ((k : Int) - 1) = ((k - 1 : Nat) : Int) := by rw [IntKind.wrap_i64]; omega
        have e2 : ((k - 1 : Nat) : Int).tdiv 4 = ((k - 1) / 4 : Nat) := by rw [Int.tdiv_eq_ediv_of_nonneg (by omega)]; omega
        have b1 : (((k - 1) / 4 : Nat) : Int) < (n : Int) := by omega
        have b2 : (k : Int) < (n : Int) := by omega
        by_cases hlo : (f k).2 < (f ((k - 1) / 4)).2
        · have hd : decide ((f k).2 < (f ((k - 1) / 4)).2) = true := by simpa using hlo
          have hb : heapB f n = false := by rw [heapB, hf.out, heapFrom_bad hlt hlo]; rfl
          have HB := Lib.hid hb
          clear hb hlo hf
          go_wp2
          go_quiet (fail)
          clear e1 e2
          go_wp2
          simp only [World.drewN_drewN]
          go_ret
          exact ⟨_, ret_bool HB.out.symm, rfl⟩
        · have hd : decide ((f k).2 < (f ((k - 1) / 4)).2) = false := by simpa using hlo
          have hfk := Lib.hid (hf.out.trans (heapFrom_good hlt hlo))
          clear hlo hf
          go_wp2
          go_quiet (fail)
          clear e1 e2
          go_wp2
          try simp only [World.drewN_drewN]
          exact ⟨⟨k + 1, _, by omega, by go_num, rfl, by omega, hfk⟩, by simp [intOf]; omega⟩
      · have HB := Lib.hid (show heapB f n = decide ((n : Int) ≤ 30) by rw [heapB, hf.out, heapFrom_out hlt, Bool.true_and, decide_eq_decide]; omega)
        clear hf
        go_wp2
        go_ret
        exact ⟨_, ret_bool HB.out.symm, rfl⟩

end Go.Proofs.Ytnmaljieaflnmaa
