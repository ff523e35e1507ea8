/-
  What is asked of a hand (spec, chapter 8).
-/
import Derived.Test.YtcapaphndemaiaaRest
namespace Go.Proofs.Ytcapaphndemaiaa
open Go.ChangeShapes Go.WideShapes Go.ChangeAt Go.RowKit Go.Joins
set_option linter.unusedVariables false

/-- where a call begins -/
def startI (k : Int) : Int := if k = 1 then 1 else if k = 2 then 5 else if k = 3 then 5 else if k = 4 then 8 else if k = 5 then 14 else if k = 6 then 18 else 0
def hd0 : Hd := ⟨0, ca0, 0, 0, false, 0, 0, 0, 0⟩
def askedHd (q : Ca) : Hd := ⟨startI q.code, q, -1, 0, false, 0, 0, 0, 0⟩
def calledH (a b c : Int) (h : Hd) (q : Ca) : Hd := if handB a b c h then (if h.pos = 0 then (if callB a b c q then askedHd q else h) else h) else hd0
def calledI (a b c : Int) (h : Hd) (q : Ca) : Int := if handB a b c h then (if h.pos = 0 then (if callB a b c q then 0 else 2) else 1) else 3

theorem ret_hi {h h' : Hd} {k k' : Int} (e1 : h' = h) (e2 : k' = k) : Ending.returned (.tuple #[hdV h, .int .i64 k]) = .returned (.tuple #[hdV h', .int .i64 k']) := by rw [e1, e2]

set_option maxRecDepth 100000 in
set_option maxHeartbeats 8000000 in
theorem spCalled_any (a b c : Int) (h : Hd) (q : Ca) (w : World) :
    Calls Try.prog 9 #[.agg #[.int .i64 a, .int .i64 b, .int .i64 c], hdV h, caV q] w fun e w' => e = .returned (.tuple #[hdV (calledH a b c h q), .int .i64 (calledI a b c h q)]) ∧ Below w.heap.size w w' := by
  have k0 := (((((Below.refl w.heap.size w).alloc (Nat.le_refl _) (.cells #[.int .i64 a, .int .i64 b, .int .i64 c] 27)).alloc (by simp <;> omega) (.cells #[.int .i64 h.pos, .int .i64 h.call.code, .int .i64 h.call.a, .int .i64 h.call.b, .int .i64 h.call.c, .int .i64 h.tim, .int .i64 h.whe, .bool h.had, .int .i64 h.cnt, .int .i64 h.beg, .int .i64 h.rep, .int .i64 h.out] 35)).alloc (by simp <;> omega) (.cells #[.int .i64 q.code, .int .i64 q.a, .int .i64 q.b, .int .i64 q.c] 29)).alloc (by simp <;> omega) (.cells #[.int .i64 0, .int .i64 0, .int .i64 0, .int .i64 0, .int .i64 0, .int .i64 0, .int .i64 0, .bool false, .int .i64 0, .int .i64 0, .int .i64 0, .int .i64 0] 35))
  have hP := heap_alloc_new w (.cells #[.int .i64 a, .int .i64 b, .int .i64 c] 27)
  replace hP := alloc_block (.cells #[.int .i64 h.pos, .int .i64 h.call.code, .int .i64 h.call.a, .int .i64 h.call.b, .int .i64 h.call.c, .int .i64 h.tim, .int .i64 h.whe, .bool h.had, .int .i64 h.cnt, .int .i64 h.beg, .int .i64 h.rep, .int .i64 h.out] 35) hP
  replace hP := alloc_block (.cells #[.int .i64 q.code, .int .i64 q.a, .int .i64 q.b, .int .i64 q.c] 29) hP
  replace hP := alloc_block (.cells #[.int .i64 0, .int .i64 0, .int .i64 0, .int .i64 0, .int .i64 0, .int .i64 0, .int .i64 0, .bool false, .int .i64 0, .int .i64 0, .int .i64 0, .int .i64 0] 35) hP
  have hH := heap_alloc_new (w.alloc (.cells #[.int .i64 a, .int .i64 b, .int .i64 c] 27)) (.cells #[.int .i64 h.pos, .int .i64 h.call.code, .int .i64 h.call.a, .int .i64 h.call.b, .int .i64 h.call.c, .int .i64 h.tim, .int .i64 h.whe, .bool h.had, .int .i64 h.cnt, .int .i64 h.beg, .int .i64 h.rep, .int .i64 h.out] 35)
  rw [show (w.alloc (.cells #[.int .i64 a, .int .i64 b, .int .i64 c] 27)).heap.size = w.heap.size + 1 by simp] at hH
  replace hH := alloc_block (.cells #[.int .i64 q.code, .int .i64 q.a, .int .i64 q.b, .int .i64 q.c] 29) hH
  replace hH := alloc_block (.cells #[.int .i64 0, .int .i64 0, .int .i64 0, .int .i64 0, .int .i64 0, .int .i64 0, .int .i64 0, .bool false, .int .i64 0, .int .i64 0, .int .i64 0, .int .i64 0] 35) hH
  have hC := heap_alloc_new ((w.alloc (.cells #[.int .i64 a, .int .i64 b, .int .i64 c] 27)).alloc (.cells #[.int .i64 h.pos, .int .i64 h.call.code, .int .i64 h.call.a, .int .i64 h.call.b, .int .i64 h.call.c, .int .i64 h.tim, .int .i64 h.whe, .bool h.had, .int .i64 h.cnt, .int .i64 h.beg, .int .i64 h.rep, .int .i64 h.out] 35)) (.cells #[.int .i64 q.code, .int .i64 q.a, .int .i64 q.b, .int .i64 q.c] 29)
  rw [show ((w.alloc (.cells #[.int .i64 a, .int .i64 b, .int .i64 c] 27)).alloc (.cells #[.int .i64 h.pos, .int .i64 h.call.code, .int .i64 h.call.a, .int .i64 h.call.b, .int .i64 h.call.c, .int .i64 h.tim, .int .i64 h.whe, .bool h.had, .int .i64 h.cnt, .int .i64 h.beg, .int .i64 h.rep, .int .i64 h.out] 35)).heap.size = w.heap.size + 1 + 1 by simp] at hC
  replace hC := alloc_block (.cells #[.int .i64 0, .int .i64 0, .int .i64 0, .int .i64 0, .int .i64 0, .int .i64 0, .int .i64 0, .bool false, .int .i64 0, .int .i64 0, .int .i64 0, .int .i64 0] 35) hC
  have hR := heap_alloc_new (((w.alloc (.cells #[.int .i64 a, .int .i64 b, .int .i64 c] 27)).alloc (.cells #[.int .i64 h.pos, .int .i64 h.call.code, .int .i64 h.call.a, .int .i64 h.call.b, .int .i64 h.call.c, .int .i64 h.tim, .int .i64 h.whe, .bool h.had, .int .i64 h.cnt, .int .i64 h.beg, .int .i64 h.rep, .int .i64 h.out] 35)).alloc (.cells #[.int .i64 q.code, .int .i64 q.a, .int .i64 q.b, .int .i64 q.c] 29)) (.cells #[.int .i64 0, .int .i64 0, .int .i64 0, .int .i64 0, .int .i64 0, .int .i64 0, .int .i64 0, .bool false, .int .i64 0, .int .i64 0, .int .i64 0, .int .i64 0] 35)
  rw [show (((w.alloc (.cells #[.int .i64 a, .int .i64 b, .int .i64 c] 27)).alloc (.cells #[.int .i64 h.pos, .int .i64 h.call.code, .int .i64 h.call.a, .int .i64 h.call.b, .int .i64 h.call.c, .int .i64 h.tim, .int .i64 h.whe, .bool h.had, .int .i64 h.cnt, .int .i64 h.beg, .int .i64 h.rep, .int .i64 h.out] 35)).alloc (.cells #[.int .i64 q.code, .int .i64 q.a, .int .i64 q.b, .int .i64 q.c] 29)).heap.size = w.heap.size + 1 + 1 + 1 by simp] at hR
  have kk := Below.refl ((((w.alloc (.cells #[.int .i64 a, .int .i64 b, .int .i64 c] 27)).alloc (.cells #[.int .i64 h.pos, .int .i64 h.call.code, .int .i64 h.call.a, .int .i64 h.call.b, .int .i64 h.call.c, .int .i64 h.tim, .int .i64 h.whe, .bool h.had, .int .i64 h.cnt, .int .i64 h.beg, .int .i64 h.rep, .int .i64 h.out] 35)).alloc (.cells #[.int .i64 q.code, .int .i64 q.a, .int .i64 q.b, .int .i64 q.c] 29)).alloc (.cells #[.int .i64 0, .int .i64 0, .int .i64 0, .int .i64 0, .int .i64 0, .int .i64 0, .int .i64 0, .bool false, .int .i64 0, .int .i64 0, .int .i64 0, .int .i64 0] 35)).heap.size ((((w.alloc (.cells #[.int .i64 a, .int .i64 b, .int .i64 c] 27)).alloc (.cells #[.int .i64 h.pos, .int .i64 h.call.code, .int .i64 h.call.a, .int .i64 h.call.b, .int .i64 h.call.c, .int .i64 h.tim, .int .i64 h.whe, .bool h.had, .int .i64 h.cnt, .int .i64 h.beg, .int .i64 h.rep, .int .i64 h.out] 35)).alloc (.cells #[.int .i64 q.code, .int .i64 q.a, .int .i64 q.b, .int .i64 q.c] 29)).alloc (.cells #[.int .i64 0, .int .i64 0, .int .i64 0, .int .i64 0, .int .i64 0, .int .i64 0, .int .i64 0, .bool false, .int .i64 0, .int .i64 0, .int .i64 0, .int .i64 0] 35))
  go_enter Try.func9, Try.ntmps9
  go_wp2_with fail
  go_at_call 19; refine (spHandOk_any _ _ _ _ _).mono ?_; rintro e w1 ⟨rfl, hb⟩; replace kk := kk.trans (hb.mono kk.size)
  replace hP := b_block hb hP (lt_of_block hP)
  replace hH := b_block hb hH (lt_of_block hH)
  replace hC := b_block hb hC (lt_of_block hC)
  replace hR := b_block hb hR (lt_of_block hR)
  have kw := k0.trans (kk.mono k0.size)
  clear hb k0 kk
  cases h1 : handB a b c h
  · have E1 := Lib.hid (show calledH a b c h q = hd0 by simp [calledH, h1])
    have E2 := Lib.hid (show calledI a b c h q = 3 by simp [calledI, h1])
    have cP0 : w1.cell? ⟨w.heap.size, 0, none⟩ = some (.int .i64 a) := cell_of_block hP 0
    have cP1 : w1.cell? ⟨w.heap.size, 1, none⟩ = some (.int .i64 b) := cell_of_block hP 1
    have cP2 : w1.cell? ⟨w.heap.size, 2, none⟩ = some (.int .i64 c) := cell_of_block hP 2
    have cH0 : w1.cell? ⟨w.heap.size + 1, 0, none⟩ = some (.int .i64 h.pos) := cell_of_block hH 0
    have cH1 : w1.cell? ⟨w.heap.size + 1, 1, none⟩ = some (.int .i64 h.call.code) := cell_of_block hH 1
    have cH2 : w1.cell? ⟨w.heap.size + 1, 2, none⟩ = some (.int .i64 h.call.a) := cell_of_block hH 2
    have cH3 : w1.cell? ⟨w.heap.size + 1, 3, none⟩ = some (.int .i64 h.call.b) := cell_of_block hH 3
    have cH4 : w1.cell? ⟨w.heap.size + 1, 4, none⟩ = some (.int .i64 h.call.c) := cell_of_block hH 4
    have cH5 : w1.cell? ⟨w.heap.size + 1, 5, none⟩ = some (.int .i64 h.tim) := cell_of_block hH 5
    have cH6 : w1.cell? ⟨w.heap.size + 1, 6, none⟩ = some (.int .i64 h.whe) := cell_of_block hH 6
    have cH7 : w1.cell? ⟨w.heap.size + 1, 7, none⟩ = some (.bool h.had) := cell_of_block hH 7
    have cH8 : w1.cell? ⟨w.heap.size + 1, 8, none⟩ = some (.int .i64 h.cnt) := cell_of_block hH 8
    have cH9 : w1.cell? ⟨w.heap.size + 1, 9, none⟩ = some (.int .i64 h.beg) := cell_of_block hH 9
    have cH10 : w1.cell? ⟨w.heap.size + 1, 10, none⟩ = some (.int .i64 h.rep) := cell_of_block hH 10
    have cH11 : w1.cell? ⟨w.heap.size + 1, 11, none⟩ = some (.int .i64 h.out) := cell_of_block hH 11
    have cC0 : w1.cell? ⟨w.heap.size + 1 + 1, 0, none⟩ = some (.int .i64 q.code) := cell_of_block hC 0
    have cC1 : w1.cell? ⟨w.heap.size + 1 + 1, 1, none⟩ = some (.int .i64 q.a) := cell_of_block hC 1
    have cC2 : w1.cell? ⟨w.heap.size + 1 + 1, 2, none⟩ = some (.int .i64 q.b) := cell_of_block hC 2
    have cC3 : w1.cell? ⟨w.heap.size + 1 + 1, 3, none⟩ = some (.int .i64 q.c) := cell_of_block hC 3
    have cR0 : w1.cell? ⟨w.heap.size + 1 + 1 + 1, 0, none⟩ = some (.int .i64 0) := cell_of_block hR 0
    have fR0 : w1.frozen? ⟨w.heap.size + 1 + 1 + 1, 0, none⟩ = false := unfrozen_of_block hR 0
    have cR1 : w1.cell? ⟨w.heap.size + 1 + 1 + 1, 1, none⟩ = some (.int .i64 0) := cell_of_block hR 1
    have fR1 : w1.frozen? ⟨w.heap.size + 1 + 1 + 1, 1, none⟩ = false := unfrozen_of_block hR 1
    have cR2 : w1.cell? ⟨w.heap.size + 1 + 1 + 1, 2, none⟩ = some (.int .i64 0) := cell_of_block hR 2
    have fR2 : w1.frozen? ⟨w.heap.size + 1 + 1 + 1, 2, none⟩ = false := unfrozen_of_block hR 2
    have cR3 : w1.cell? ⟨w.heap.size + 1 + 1 + 1, 3, none⟩ = some (.int .i64 0) := cell_of_block hR 3
    have fR3 : w1.frozen? ⟨w.heap.size + 1 + 1 + 1, 3, none⟩ = false := unfrozen_of_block hR 3
    have cR4 : w1.cell? ⟨w.heap.size + 1 + 1 + 1, 4, none⟩ = some (.int .i64 0) := cell_of_block hR 4
    have fR4 : w1.frozen? ⟨w.heap.size + 1 + 1 + 1, 4, none⟩ = false := unfrozen_of_block hR 4
    have cR5 : w1.cell? ⟨w.heap.size + 1 + 1 + 1, 5, none⟩ = some (.int .i64 0) := cell_of_block hR 5
    have fR5 : w1.frozen? ⟨w.heap.size + 1 + 1 + 1, 5, none⟩ = false := unfrozen_of_block hR 5
    have cR6 : w1.cell? ⟨w.heap.size + 1 + 1 + 1, 6, none⟩ = some (.int .i64 0) := cell_of_block hR 6
    have fR6 : w1.frozen? ⟨w.heap.size + 1 + 1 + 1, 6, none⟩ = false := unfrozen_of_block hR 6
    have cR7 : w1.cell? ⟨w.heap.size + 1 + 1 + 1, 7, none⟩ = some (.bool false) := cell_of_block hR 7
    have fR7 : w1.frozen? ⟨w.heap.size + 1 + 1 + 1, 7, none⟩ = false := unfrozen_of_block hR 7
    have cR8 : w1.cell? ⟨w.heap.size + 1 + 1 + 1, 8, none⟩ = some (.int .i64 0) := cell_of_block hR 8
    have fR8 : w1.frozen? ⟨w.heap.size + 1 + 1 + 1, 8, none⟩ = false := unfrozen_of_block hR 8
    have cR9 : w1.cell? ⟨w.heap.size + 1 + 1 + 1, 9, none⟩ = some (.int .i64 0) := cell_of_block hR 9
    have fR9 : w1.frozen? ⟨w.heap.size + 1 + 1 + 1, 9, none⟩ = false := unfrozen_of_block hR 9
    have cR10 : w1.cell? ⟨w.heap.size + 1 + 1 + 1, 10, none⟩ = some (.int .i64 0) := cell_of_block hR 10
    have fR10 : w1.frozen? ⟨w.heap.size + 1 + 1 + 1, 10, none⟩ = false := unfrozen_of_block hR 10
    have cR11 : w1.cell? ⟨w.heap.size + 1 + 1 + 1, 11, none⟩ = some (.int .i64 0) := cell_of_block hR 11
    have fR11 : w1.frozen? ⟨w.heap.size + 1 + 1 + 1, 11, none⟩ = false := unfrozen_of_block hR 11
    go_wp2
    have r0 := set_hand (h := ⟨0, ⟨0, 0, 0, 0⟩, 0, 0, false, 0, 0, 0, 0⟩) hR
    have hb := b_set_hand (n := w.heap.size) (B := w.heap.size + 1 + 1 + 1) (h := ⟨0, ⟨0, 0, 0, 0⟩, 0, 0, false, 0, 0, 0, 0⟩) kw (by omega)
    dsimp only at r0 hb
    have hq := r0
    clear r0
    have r0 := cell_of_block hq 0
    have r1 := cell_of_block hq 1
    have r2 := cell_of_block hq 2
    have r3 := cell_of_block hq 3
    have r4 := cell_of_block hq 4
    have r5 := cell_of_block hq 5
    have r6 := cell_of_block hq 6
    have r7 := cell_of_block hq 7
    have r8 := cell_of_block hq 8
    have r9 := cell_of_block hq 9
    have r10 := cell_of_block hq 10
    have r11 := cell_of_block hq 11
    exact bodyPost_ret (v := .tuple #[hdV ⟨0, ⟨0, 0, 0, 0⟩, 0, 0, false, 0, 0, 0, 0⟩, .int .i64 3]) (by simp [results, Try.results9, go_sem, r0, r1, r2, r3, r4, r5, r6, r7, r8, r9, r10, r11]) rfl ⟨ret_hi E1.out E2.out, hb⟩
  by_cases h2 : h.pos = 0
  case neg =>
    have E1 := Lib.hid (show calledH a b c h q = h by simp [calledH, h1, h2])
    have E2 := Lib.hid (show calledI a b c h q = 1 by simp [calledI, h1, h2])
    have h2b : (h.pos == 0) = false := by simpa using h2
    have h2c : (h.pos != 0) = true := by simpa using h2
    have cP0 : w1.cell? ⟨w.heap.size, 0, none⟩ = some (.int .i64 a) := cell_of_block hP 0
    have cP1 : w1.cell? ⟨w.heap.size, 1, none⟩ = some (.int .i64 b) := cell_of_block hP 1
    have cP2 : w1.cell? ⟨w.heap.size, 2, none⟩ = some (.int .i64 c) := cell_of_block hP 2
    have cH0 : w1.cell? ⟨w.heap.size + 1, 0, none⟩ = some (.int .i64 h.pos) := cell_of_block hH 0
    have cH1 : w1.cell? ⟨w.heap.size + 1, 1, none⟩ = some (.int .i64 h.call.code) := cell_of_block hH 1
    have cH2 : w1.cell? ⟨w.heap.size + 1, 2, none⟩ = some (.int .i64 h.call.a) := cell_of_block hH 2
    have cH3 : w1.cell? ⟨w.heap.size + 1, 3, none⟩ = some (.int .i64 h.call.b) := cell_of_block hH 3
    have cH4 : w1.cell? ⟨w.heap.size + 1, 4, none⟩ = some (.int .i64 h.call.c) := cell_of_block hH 4
    have cH5 : w1.cell? ⟨w.heap.size + 1, 5, none⟩ = some (.int .i64 h.tim) := cell_of_block hH 5
    have cH6 : w1.cell? ⟨w.heap.size + 1, 6, none⟩ = some (.int .i64 h.whe) := cell_of_block hH 6
    have cH7 : w1.cell? ⟨w.heap.size + 1, 7, none⟩ = some (.bool h.had) := cell_of_block hH 7
    have cH8 : w1.cell? ⟨w.heap.size + 1, 8, none⟩ = some (.int .i64 h.cnt) := cell_of_block hH 8
    have cH9 : w1.cell? ⟨w.heap.size + 1, 9, none⟩ = some (.int .i64 h.beg) := cell_of_block hH 9
    have cH10 : w1.cell? ⟨w.heap.size + 1, 10, none⟩ = some (.int .i64 h.rep) := cell_of_block hH 10
    have cH11 : w1.cell? ⟨w.heap.size + 1, 11, none⟩ = some (.int .i64 h.out) := cell_of_block hH 11
    have cC0 : w1.cell? ⟨w.heap.size + 1 + 1, 0, none⟩ = some (.int .i64 q.code) := cell_of_block hC 0
    have cC1 : w1.cell? ⟨w.heap.size + 1 + 1, 1, none⟩ = some (.int .i64 q.a) := cell_of_block hC 1
    have cC2 : w1.cell? ⟨w.heap.size + 1 + 1, 2, none⟩ = some (.int .i64 q.b) := cell_of_block hC 2
    have cC3 : w1.cell? ⟨w.heap.size + 1 + 1, 3, none⟩ = some (.int .i64 q.c) := cell_of_block hC 3
    have cR0 : w1.cell? ⟨w.heap.size + 1 + 1 + 1, 0, none⟩ = some (.int .i64 0) := cell_of_block hR 0
    have fR0 : w1.frozen? ⟨w.heap.size + 1 + 1 + 1, 0, none⟩ = false := unfrozen_of_block hR 0
    have cR1 : w1.cell? ⟨w.heap.size + 1 + 1 + 1, 1, none⟩ = some (.int .i64 0) := cell_of_block hR 1
    have fR1 : w1.frozen? ⟨w.heap.size + 1 + 1 + 1, 1, none⟩ = false := unfrozen_of_block hR 1
    have cR2 : w1.cell? ⟨w.heap.size + 1 + 1 + 1, 2, none⟩ = some (.int .i64 0) := cell_of_block hR 2
    have fR2 : w1.frozen? ⟨w.heap.size + 1 + 1 + 1, 2, none⟩ = false := unfrozen_of_block hR 2
    have cR3 : w1.cell? ⟨w.heap.size + 1 + 1 + 1, 3, none⟩ = some (.int .i64 0) := cell_of_block hR 3
    have fR3 : w1.frozen? ⟨w.heap.size + 1 + 1 + 1, 3, none⟩ = false := unfrozen_of_block hR 3
    have cR4 : w1.cell? ⟨w.heap.size + 1 + 1 + 1, 4, none⟩ = some (.int .i64 0) := cell_of_block hR 4
    have fR4 : w1.frozen? ⟨w.heap.size + 1 + 1 + 1, 4, none⟩ = false := unfrozen_of_block hR 4
    have cR5 : w1.cell? ⟨w.heap.size + 1 + 1 + 1, 5, none⟩ = some (.int .i64 0) := cell_of_block hR 5
    have fR5 : w1.frozen? ⟨w.heap.size + 1 + 1 + 1, 5, none⟩ = false := unfrozen_of_block hR 5
    have cR6 : w1.cell? ⟨w.heap.size + 1 + 1 + 1, 6, none⟩ = some (.int .i64 0) := cell_of_block hR 6
    have fR6 : w1.frozen? ⟨w.heap.size + 1 + 1 + 1, 6, none⟩ = false := unfrozen_of_block hR 6
    have cR7 : w1.cell? ⟨w.heap.size + 1 + 1 + 1, 7, none⟩ = some (.bool false) := cell_of_block hR 7
    have fR7 : w1.frozen? ⟨w.heap.size + 1 + 1 + 1, 7, none⟩ = false := unfrozen_of_block hR 7
    have cR8 : w1.cell? ⟨w.heap.size + 1 + 1 + 1, 8, none⟩ = some (.int .i64 0) := cell_of_block hR 8
    have fR8 : w1.frozen? ⟨w.heap.size + 1 + 1 + 1, 8, none⟩ = false := unfrozen_of_block hR 8
    have cR9 : w1.cell? ⟨w.heap.size + 1 + 1 + 1, 9, none⟩ = some (.int .i64 0) := cell_of_block hR 9
    have fR9 : w1.frozen? ⟨w.heap.size + 1 + 1 + 1, 9, none⟩ = false := unfrozen_of_block hR 9
    have cR10 : w1.cell? ⟨w.heap.size + 1 + 1 + 1, 10, none⟩ = some (.int .i64 0) := cell_of_block hR 10
    have fR10 : w1.frozen? ⟨w.heap.size + 1 + 1 + 1, 10, none⟩ = false := unfrozen_of_block hR 10
    have cR11 : w1.cell? ⟨w.heap.size + 1 + 1 + 1, 11, none⟩ = some (.int .i64 0) := cell_of_block hR 11
    have fR11 : w1.frozen? ⟨w.heap.size + 1 + 1 + 1, 11, none⟩ = false := unfrozen_of_block hR 11
    go_wp2
    have r0 := set_hand (h := h) hR
    have hb := b_set_hand (n := w.heap.size) (B := w.heap.size + 1 + 1 + 1) (h := h) kw (by omega)
    have hq := r0
    clear r0
    have r0 := cell_of_block hq 0
    have r1 := cell_of_block hq 1
    have r2 := cell_of_block hq 2
    have r3 := cell_of_block hq 3
    have r4 := cell_of_block hq 4
    have r5 := cell_of_block hq 5
    have r6 := cell_of_block hq 6
    have r7 := cell_of_block hq 7
    have r8 := cell_of_block hq 8
    have r9 := cell_of_block hq 9
    have r10 := cell_of_block hq 10
    have r11 := cell_of_block hq 11
    exact bodyPost_ret (v := .tuple #[hdV h, .int .i64 1]) (by simp [results, Try.results9, go_sem, r0, r1, r2, r3, r4, r5, r6, r7, r8, r9, r10, r11]) rfl ⟨ret_hi E1.out E2.out, hb⟩
  have h2b : (h.pos == 0) = true := by simpa using h2
  have h2c : (h.pos != 0) = false := by simpa using h2
  have H2 := Lib.hid h2
  clear h2
  have cP0 : w1.cell? ⟨w.heap.size, 0, none⟩ = some (.int .i64 a) := cell_of_block hP 0
  have cP1 : w1.cell? ⟨w.heap.size, 1, none⟩ = some (.int .i64 b) := cell_of_block hP 1
  have cP2 : w1.cell? ⟨w.heap.size, 2, none⟩ = some (.int .i64 c) := cell_of_block hP 2
  have cH0 : w1.cell? ⟨w.heap.size + 1, 0, none⟩ = some (.int .i64 h.pos) := cell_of_block hH 0
  have cH1 : w1.cell? ⟨w.heap.size + 1, 1, none⟩ = some (.int .i64 h.call.code) := cell_of_block hH 1
  have cH2 : w1.cell? ⟨w.heap.size + 1, 2, none⟩ = some (.int .i64 h.call.a) := cell_of_block hH 2
  have cH3 : w1.cell? ⟨w.heap.size + 1, 3, none⟩ = some (.int .i64 h.call.b) := cell_of_block hH 3
  have cH4 : w1.cell? ⟨w.heap.size + 1, 4, none⟩ = some (.int .i64 h.call.c) := cell_of_block hH 4
  have cH5 : w1.cell? ⟨w.heap.size + 1, 5, none⟩ = some (.int .i64 h.tim) := cell_of_block hH 5
  have cH6 : w1.cell? ⟨w.heap.size + 1, 6, none⟩ = some (.int .i64 h.whe) := cell_of_block hH 6
  have cH7 : w1.cell? ⟨w.heap.size + 1, 7, none⟩ = some (.bool h.had) := cell_of_block hH 7
  have cH8 : w1.cell? ⟨w.heap.size + 1, 8, none⟩ = some (.int .i64 h.cnt) := cell_of_block hH 8
  have cH9 : w1.cell? ⟨w.heap.size + 1, 9, none⟩ = some (.int .i64 h.beg) := cell_of_block hH 9
  have cH10 : w1.cell? ⟨w.heap.size + 1, 10, none⟩ = some (.int .i64 h.rep) := cell_of_block hH 10
  have cH11 : w1.cell? ⟨w.heap.size + 1, 11, none⟩ = some (.int .i64 h.out) := cell_of_block hH 11
  have cC0 : w1.cell? ⟨w.heap.size + 1 + 1, 0, none⟩ = some (.int .i64 q.code) := cell_of_block hC 0
  have cC1 : w1.cell? ⟨w.heap.size + 1 + 1, 1, none⟩ = some (.int .i64 q.a) := cell_of_block hC 1
  have cC2 : w1.cell? ⟨w.heap.size + 1 + 1, 2, none⟩ = some (.int .i64 q.b) := cell_of_block hC 2
  have cC3 : w1.cell? ⟨w.heap.size + 1 + 1, 3, none⟩ = some (.int .i64 q.c) := cell_of_block hC 3
  have cR0 : w1.cell? ⟨w.heap.size + 1 + 1 + 1, 0, none⟩ = some (.int .i64 0) := cell_of_block hR 0
  have fR0 : w1.frozen? ⟨w.heap.size + 1 + 1 + 1, 0, none⟩ = false := unfrozen_of_block hR 0
  have cR1 : w1.cell? ⟨w.heap.size + 1 + 1 + 1, 1, none⟩ = some (.int .i64 0) := cell_of_block hR 1
  have fR1 : w1.frozen? ⟨w.heap.size + 1 + 1 + 1, 1, none⟩ = false := unfrozen_of_block hR 1
  have cR2 : w1.cell? ⟨w.heap.size + 1 + 1 + 1, 2, none⟩ = some (.int .i64 0) := cell_of_block hR 2
  have fR2 : w1.frozen? ⟨w.heap.size + 1 + 1 + 1, 2, none⟩ = false := unfrozen_of_block hR 2
  have cR3 : w1.cell? ⟨w.heap.size + 1 + 1 + 1, 3, none⟩ = some (.int .i64 0) := cell_of_block hR 3
  have fR3 : w1.frozen? ⟨w.heap.size + 1 + 1 + 1, 3, none⟩ = false := unfrozen_of_block hR 3
  have cR4 : w1.cell? ⟨w.heap.size + 1 + 1 + 1, 4, none⟩ = some (.int .i64 0) := cell_of_block hR 4
  have fR4 : w1.frozen? ⟨w.heap.size + 1 + 1 + 1, 4, none⟩ = false := unfrozen_of_block hR 4
  have cR5 : w1.cell? ⟨w.heap.size + 1 + 1 + 1, 5, none⟩ = some (.int .i64 0) := cell_of_block hR 5
  have fR5 : w1.frozen? ⟨w.heap.size + 1 + 1 + 1, 5, none⟩ = false := unfrozen_of_block hR 5
  have cR6 : w1.cell? ⟨w.heap.size + 1 + 1 + 1, 6, none⟩ = some (.int .i64 0) := cell_of_block hR 6
  have fR6 : w1.frozen? ⟨w.heap.size + 1 + 1 + 1, 6, none⟩ = false := unfrozen_of_block hR 6
  have cR7 : w1.cell? ⟨w.heap.size + 1 + 1 + 1, 7, none⟩ = some (.bool false) := cell_of_block hR 7
  have fR7 : w1.frozen? ⟨w.heap.size + 1 + 1 + 1, 7, none⟩ = false := unfrozen_of_block hR 7
  have cR8 : w1.cell? ⟨w.heap.size + 1 + 1 + 1, 8, none⟩ = some (.int .i64 0) := cell_of_block hR 8
  have fR8 : w1.frozen? ⟨w.heap.size + 1 + 1 + 1, 8, none⟩ = false := unfrozen_of_block hR 8
  have cR9 : w1.cell? ⟨w.heap.size + 1 + 1 + 1, 9, none⟩ = some (.int .i64 0) := cell_of_block hR 9
  have fR9 : w1.frozen? ⟨w.heap.size + 1 + 1 + 1, 9, none⟩ = false := unfrozen_of_block hR 9
  have cR10 : w1.cell? ⟨w.heap.size + 1 + 1 + 1, 10, none⟩ = some (.int .i64 0) := cell_of_block hR 10
  have fR10 : w1.frozen? ⟨w.heap.size + 1 + 1 + 1, 10, none⟩ = false := unfrozen_of_block hR 10
  have cR11 : w1.cell? ⟨w.heap.size + 1 + 1 + 1, 11, none⟩ = some (.int .i64 0) := cell_of_block hR 11
  have fR11 : w1.frozen? ⟨w.heap.size + 1 + 1 + 1, 11, none⟩ = false := unfrozen_of_block hR 11
  go_wp2_with fail
  go_at_call 5; refine (spCallOk_any _ _ _ _ _).mono ?_; rintro e w2 ⟨rfl, hb⟩
  clear cP0 cP1 cP2 cH0 cH1 cH2 cH3 cH4 cH5 cH6 cH7 cH8 cH9 cH10 cH11 cC0 cC1 cC2 cC3 cR0 fR0 cR1 fR1 cR2 fR2 cR3 fR3 cR4 fR4 cR5 fR5 cR6 fR6 cR7 fR7 cR8 fR8 cR9 fR9 cR10 fR10 cR11 fR11
  replace hP := b_block hb hP (lt_of_block hP)
  replace hH := b_block hb hH (lt_of_block hH)
  replace hC := b_block hb hC (lt_of_block hC)
  replace hR := b_block hb hR (lt_of_block hR)
  replace kw := kw.trans (hb.mono kw.size)
  clear hb
  cases h3 : callB a b c q
  · have E1 := Lib.hid (show calledH a b c h q = h by simp [calledH, h1, H2.out, h3])
    have E2 := Lib.hid (show calledI a b c h q = 2 by simp [calledI, h1, H2.out, h3])
    have cP0 : w2.cell? ⟨w.heap.size, 0, none⟩ = some (.int .i64 a) := cell_of_block hP 0
    have cP1 : w2.cell? ⟨w.heap.size, 1, none⟩ = some (.int .i64 b) := cell_of_block hP 1
    have cP2 : w2.cell? ⟨w.heap.size, 2, none⟩ = some (.int .i64 c) := cell_of_block hP 2
    have cH0 : w2.cell? ⟨w.heap.size + 1, 0, none⟩ = some (.int .i64 h.pos) := cell_of_block hH 0
    have cH1 : w2.cell? ⟨w.heap.size + 1, 1, none⟩ = some (.int .i64 h.call.code) := cell_of_block hH 1
    have cH2 : w2.cell? ⟨w.heap.size + 1, 2, none⟩ = some (.int .i64 h.call.a) := cell_of_block hH 2
    have cH3 : w2.cell? ⟨w.heap.size + 1, 3, none⟩ = some (.int .i64 h.call.b) := cell_of_block hH 3
    have cH4 : w2.cell? ⟨w.heap.size + 1, 4, none⟩ = some (.int .i64 h.call.c) := cell_of_block hH 4
    have cH5 : w2.cell? ⟨w.heap.size + 1, 5, none⟩ = some (.int .i64 h.tim) := cell_of_block hH 5
    have cH6 : w2.cell? ⟨w.heap.size + 1, 6, none⟩ = some (.int .i64 h.whe) := cell_of_block hH 6
    have cH7 : w2.cell? ⟨w.heap.size + 1, 7, none⟩ = some (.bool h.had) := cell_of_block hH 7
    have cH8 : w2.cell? ⟨w.heap.size + 1, 8, none⟩ = some (.int .i64 h.cnt) := cell_of_block hH 8
    have cH9 : w2.cell? ⟨w.heap.size + 1, 9, none⟩ = some (.int .i64 h.beg) := cell_of_block hH 9
    have cH10 : w2.cell? ⟨w.heap.size + 1, 10, none⟩ = some (.int .i64 h.rep) := cell_of_block hH 10
    have cH11 : w2.cell? ⟨w.heap.size + 1, 11, none⟩ = some (.int .i64 h.out) := cell_of_block hH 11
    have cC0 : w2.cell? ⟨w.heap.size + 1 + 1, 0, none⟩ = some (.int .i64 q.code) := cell_of_block hC 0
    have cC1 : w2.cell? ⟨w.heap.size + 1 + 1, 1, none⟩ = some (.int .i64 q.a) := cell_of_block hC 1
    have cC2 : w2.cell? ⟨w.heap.size + 1 + 1, 2, none⟩ = some (.int .i64 q.b) := cell_of_block hC 2
    have cC3 : w2.cell? ⟨w.heap.size + 1 + 1, 3, none⟩ = some (.int .i64 q.c) := cell_of_block hC 3
    have cR0 : w2.cell? ⟨w.heap.size + 1 + 1 + 1, 0, none⟩ = some (.int .i64 0) := cell_of_block hR 0
    have fR0 : w2.frozen? ⟨w.heap.size + 1 + 1 + 1, 0, none⟩ = false := unfrozen_of_block hR 0
    have cR1 : w2.cell? ⟨w.heap.size + 1 + 1 + 1, 1, none⟩ = some (.int .i64 0) := cell_of_block hR 1
    have fR1 : w2.frozen? ⟨w.heap.size + 1 + 1 + 1, 1, none⟩ = false := unfrozen_of_block hR 1
    have cR2 : w2.cell? ⟨w.heap.size + 1 + 1 + 1, 2, none⟩ = some (.int .i64 0) := cell_of_block hR 2
    have fR2 : w2.frozen? ⟨w.heap.size + 1 + 1 + 1, 2, none⟩ = false := unfrozen_of_block hR 2
    have cR3 : w2.cell? ⟨w.heap.size + 1 + 1 + 1, 3, none⟩ = some (.int .i64 0) := cell_of_block hR 3
    have fR3 : w2.frozen? ⟨w.heap.size + 1 + 1 + 1, 3, none⟩ = false := unfrozen_of_block hR 3
    have cR4 : w2.cell? ⟨w.heap.size + 1 + 1 + 1, 4, none⟩ = some (.int .i64 0) := cell_of_block hR 4
    have fR4 : w2.frozen? ⟨w.heap.size + 1 + 1 + 1, 4, none⟩ = false := unfrozen_of_block hR 4
    have cR5 : w2.cell? ⟨w.heap.size + 1 + 1 + 1, 5, none⟩ = some (.int .i64 0) := cell_of_block hR 5
    have fR5 : w2.frozen? ⟨w.heap.size + 1 + 1 + 1, 5, none⟩ = false := unfrozen_of_block hR 5
    have cR6 : w2.cell? ⟨w.heap.size + 1 + 1 + 1, 6, none⟩ = some (.int .i64 0) := cell_of_block hR 6
    have fR6 : w2.frozen? ⟨w.heap.size + 1 + 1 + 1, 6, none⟩ = false := unfrozen_of_block hR 6
    have cR7 : w2.cell? ⟨w.heap.size + 1 + 1 + 1, 7, none⟩ = some (.bool false) := cell_of_block hR 7
    have fR7 : w2.frozen? ⟨w.heap.size + 1 + 1 + 1, 7, none⟩ = false := unfrozen_of_block hR 7
    have cR8 : w2.cell? ⟨w.heap.size + 1 + 1 + 1, 8, none⟩ = some (.int .i64 0) := cell_of_block hR 8
    have fR8 : w2.frozen? ⟨w.heap.size + 1 + 1 + 1, 8, none⟩ = false := unfrozen_of_block hR 8
    have cR9 : w2.cell? ⟨w.heap.size + 1 + 1 + 1, 9, none⟩ = some (.int .i64 0) := cell_of_block hR 9
    have fR9 : w2.frozen? ⟨w.heap.size + 1 + 1 + 1, 9, none⟩ = false := unfrozen_of_block hR 9
    have cR10 : w2.cell? ⟨w.heap.size + 1 + 1 + 1, 10, none⟩ = some (.int .i64 0) := cell_of_block hR 10
    have fR10 : w2.frozen? ⟨w.heap.size + 1 + 1 + 1, 10, none⟩ = false := unfrozen_of_block hR 10
    have cR11 : w2.cell? ⟨w.heap.size + 1 + 1 + 1, 11, none⟩ = some (.int .i64 0) := cell_of_block hR 11
    have fR11 : w2.frozen? ⟨w.heap.size + 1 + 1 + 1, 11, none⟩ = false := unfrozen_of_block hR 11
    go_wp2
    have r0 := set_hand (h := h) hR
    have hb := b_set_hand (n := w.heap.size) (B := w.heap.size + 1 + 1 + 1) (h := h) kw (by omega)
    have hq := r0
    clear r0
    have r0 := cell_of_block hq 0
    have r1 := cell_of_block hq 1
    have r2 := cell_of_block hq 2
    have r3 := cell_of_block hq 3
    have r4 := cell_of_block hq 4
    have r5 := cell_of_block hq 5
    have r6 := cell_of_block hq 6
    have r7 := cell_of_block hq 7
    have r8 := cell_of_block hq 8
    have r9 := cell_of_block hq 9
    have r10 := cell_of_block hq 10
    have r11 := cell_of_block hq 11
    exact bodyPost_ret (v := .tuple #[hdV h, .int .i64 2]) (by simp [results, Try.results9, go_sem, r0, r1, r2, r3, r4, r5, r6, r7, r8, r9, r10, r11]) rfl ⟨ret_hi E1.out E2.out, hb⟩
  have E2 := Lib.hid (show calledI a b c h q = 0 by simp [calledI, h1, H2.out, h3])
  have E0 := Lib.hid (show calledH a b c h q = askedHd q by simp [calledH, h1, H2.out, h3])
  have cP0 : w2.cell? ⟨w.heap.size, 0, none⟩ = some (.int .i64 a) := cell_of_block hP 0
  have cP1 : w2.cell? ⟨w.heap.size, 1, none⟩ = some (.int .i64 b) := cell_of_block hP 1
  have cP2 : w2.cell? ⟨w.heap.size, 2, none⟩ = some (.int .i64 c) := cell_of_block hP 2
  have cH0 : w2.cell? ⟨w.heap.size + 1, 0, none⟩ = some (.int .i64 h.pos) := cell_of_block hH 0
  have cH1 : w2.cell? ⟨w.heap.size + 1, 1, none⟩ = some (.int .i64 h.call.code) := cell_of_block hH 1
  have cH2 : w2.cell? ⟨w.heap.size + 1, 2, none⟩ = some (.int .i64 h.call.a) := cell_of_block hH 2
  have cH3 : w2.cell? ⟨w.heap.size + 1, 3, none⟩ = some (.int .i64 h.call.b) := cell_of_block hH 3
  have cH4 : w2.cell? ⟨w.heap.size + 1, 4, none⟩ = some (.int .i64 h.call.c) := cell_of_block hH 4
  have cH5 : w2.cell? ⟨w.heap.size + 1, 5, none⟩ = some (.int .i64 h.tim) := cell_of_block hH 5
  have cH6 : w2.cell? ⟨w.heap.size + 1, 6, none⟩ = some (.int .i64 h.whe) := cell_of_block hH 6
  have cH7 : w2.cell? ⟨w.heap.size + 1, 7, none⟩ = some (.bool h.had) := cell_of_block hH 7
  have cH8 : w2.cell? ⟨w.heap.size + 1, 8, none⟩ = some (.int .i64 h.cnt) := cell_of_block hH 8
  have cH9 : w2.cell? ⟨w.heap.size + 1, 9, none⟩ = some (.int .i64 h.beg) := cell_of_block hH 9
  have cH10 : w2.cell? ⟨w.heap.size + 1, 10, none⟩ = some (.int .i64 h.rep) := cell_of_block hH 10
  have cH11 : w2.cell? ⟨w.heap.size + 1, 11, none⟩ = some (.int .i64 h.out) := cell_of_block hH 11
  have cC0 : w2.cell? ⟨w.heap.size + 1 + 1, 0, none⟩ = some (.int .i64 q.code) := cell_of_block hC 0
  have cC1 : w2.cell? ⟨w.heap.size + 1 + 1, 1, none⟩ = some (.int .i64 q.a) := cell_of_block hC 1
  have cC2 : w2.cell? ⟨w.heap.size + 1 + 1, 2, none⟩ = some (.int .i64 q.b) := cell_of_block hC 2
  have cC3 : w2.cell? ⟨w.heap.size + 1 + 1, 3, none⟩ = some (.int .i64 q.c) := cell_of_block hC 3
  have cR0 : w2.cell? ⟨w.heap.size + 1 + 1 + 1, 0, none⟩ = some (.int .i64 0) := cell_of_block hR 0
  have fR0 : w2.frozen? ⟨w.heap.size + 1 + 1 + 1, 0, none⟩ = false := unfrozen_of_block hR 0
  have cR1 : w2.cell? ⟨w.heap.size + 1 + 1 + 1, 1, none⟩ = some (.int .i64 0) := cell_of_block hR 1
  have fR1 : w2.frozen? ⟨w.heap.size + 1 + 1 + 1, 1, none⟩ = false := unfrozen_of_block hR 1
  have cR2 : w2.cell? ⟨w.heap.size + 1 + 1 + 1, 2, none⟩ = some (.int .i64 0) := cell_of_block hR 2
  have fR2 : w2.frozen? ⟨w.heap.size + 1 + 1 + 1, 2, none⟩ = false := unfrozen_of_block hR 2
  have cR3 : w2.cell? ⟨w.heap.size + 1 + 1 + 1, 3, none⟩ = some (.int .i64 0) := cell_of_block hR 3
  have fR3 : w2.frozen? ⟨w.heap.size + 1 + 1 + 1, 3, none⟩ = false := unfrozen_of_block hR 3
  have cR4 : w2.cell? ⟨w.heap.size + 1 + 1 + 1, 4, none⟩ = some (.int .i64 0) := cell_of_block hR 4
  have fR4 : w2.frozen? ⟨w.heap.size + 1 + 1 + 1, 4, none⟩ = false := unfrozen_of_block hR 4
  have cR5 : w2.cell? ⟨w.heap.size + 1 + 1 + 1, 5, none⟩ = some (.int .i64 0) := cell_of_block hR 5
  have fR5 : w2.frozen? ⟨w.heap.size + 1 + 1 + 1, 5, none⟩ = false := unfrozen_of_block hR 5
  have cR6 : w2.cell? ⟨w.heap.size + 1 + 1 + 1, 6, none⟩ = some (.int .i64 0) := cell_of_block hR 6
  have fR6 : w2.frozen? ⟨w.heap.size + 1 + 1 + 1, 6, none⟩ = false := unfrozen_of_block hR 6
  have cR7 : w2.cell? ⟨w.heap.size + 1 + 1 + 1, 7, none⟩ = some (.bool false) := cell_of_block hR 7
  have fR7 : w2.frozen? ⟨w.heap.size + 1 + 1 + 1, 7, none⟩ = false := unfrozen_of_block hR 7
  have cR8 : w2.cell? ⟨w.heap.size + 1 + 1 + 1, 8, none⟩ = some (.int .i64 0) := cell_of_block hR 8
  have fR8 : w2.frozen? ⟨w.heap.size + 1 + 1 + 1, 8, none⟩ = false := unfrozen_of_block hR 8
  have cR9 : w2.cell? ⟨w.heap.size + 1 + 1 + 1, 9, none⟩ = some (.int .i64 0) := cell_of_block hR 9
  have fR9 : w2.frozen? ⟨w.heap.size + 1 + 1 + 1, 9, none⟩ = false := unfrozen_of_block hR 9
  have cR10 : w2.cell? ⟨w.heap.size + 1 + 1 + 1, 10, none⟩ = some (.int .i64 0) := cell_of_block hR 10
  have fR10 : w2.frozen? ⟨w.heap.size + 1 + 1 + 1, 10, none⟩ = false := unfrozen_of_block hR 10
  have cR11 : w2.cell? ⟨w.heap.size + 1 + 1 + 1, 11, none⟩ = some (.int .i64 0) := cell_of_block hR 11
  have fR11 : w2.frozen? ⟨w.heap.size + 1 + 1 + 1, 11, none⟩ = false := unfrozen_of_block hR 11
  go_wp2_with fail
  go_at_call 20; refine (spNewHand_any _).mono ?_; rintro e w3 ⟨rfl, hb⟩
  clear cP0 cP1 cP2 cH0 cH1 cH2 cH3 cH4 cH5 cH6 cH7 cH8 cH9 cH10 cH11 cC0 cC1 cC2 cC3 cR0 fR0 cR1 fR1 cR2 fR2 cR3 fR3 cR4 fR4 cR5 fR5 cR6 fR6 cR7 fR7 cR8 fR8 cR9 fR9 cR10 fR10 cR11 fR11
  replace hP := b_block hb hP (lt_of_block hP)
  replace hH := b_block hb hH (lt_of_block hH)
  replace hC := b_block hb hC (lt_of_block hC)
  replace hR := b_block hb hR (lt_of_block hR)
  replace kw := kw.trans (hb.mono kw.size)
  clear hb
  have cP0 : ∀ X : Obj, (w3.alloc X).cell? ⟨w.heap.size, 0, none⟩ = some (.int .i64 a) := fun X => cell_of_block (alloc_block X hP) 0
  have cP1 : ∀ X : Obj, (w3.alloc X).cell? ⟨w.heap.size, 1, none⟩ = some (.int .i64 b) := fun X => cell_of_block (alloc_block X hP) 1
  have cP2 : ∀ X : Obj, (w3.alloc X).cell? ⟨w.heap.size, 2, none⟩ = some (.int .i64 c) := fun X => cell_of_block (alloc_block X hP) 2
  have cH0 : ∀ X : Obj, (w3.alloc X).cell? ⟨w.heap.size + 1, 0, none⟩ = some (.int .i64 h.pos) := fun X => cell_of_block (alloc_block X hH) 0
  have cH1 : ∀ X : Obj, (w3.alloc X).cell? ⟨w.heap.size + 1, 1, none⟩ = some (.int .i64 h.call.code) := fun X => cell_of_block (alloc_block X hH) 1
  have cH2 : ∀ X : Obj, (w3.alloc X).cell? ⟨w.heap.size + 1, 2, none⟩ = some (.int .i64 h.call.a) := fun X => cell_of_block (alloc_block X hH) 2
  have cH3 : ∀ X : Obj, (w3.alloc X).cell? ⟨w.heap.size + 1, 3, none⟩ = some (.int .i64 h.call.b) := fun X => cell_of_block (alloc_block X hH) 3
  have cH4 : ∀ X : Obj, (w3.alloc X).cell? ⟨w.heap.size + 1, 4, none⟩ = some (.int .i64 h.call.c) := fun X => cell_of_block (alloc_block X hH) 4
  have cH5 : ∀ X : Obj, (w3.alloc X).cell? ⟨w.heap.size + 1, 5, none⟩ = some (.int .i64 h.tim) := fun X => cell_of_block (alloc_block X hH) 5
  have cH6 : ∀ X : Obj, (w3.alloc X).cell? ⟨w.heap.size + 1, 6, none⟩ = some (.int .i64 h.whe) := fun X => cell_of_block (alloc_block X hH) 6
  have cH7 : ∀ X : Obj, (w3.alloc X).cell? ⟨w.heap.size + 1, 7, none⟩ = some (.bool h.had) := fun X => cell_of_block (alloc_block X hH) 7
  have cH8 : ∀ X : Obj, (w3.alloc X).cell? ⟨w.heap.size + 1, 8, none⟩ = some (.int .i64 h.cnt) := fun X => cell_of_block (alloc_block X hH) 8
  have cH9 : ∀ X : Obj, (w3.alloc X).cell? ⟨w.heap.size + 1, 9, none⟩ = some (.int .i64 h.beg) := fun X => cell_of_block (alloc_block X hH) 9
  have cH10 : ∀ X : Obj, (w3.alloc X).cell? ⟨w.heap.size + 1, 10, none⟩ = some (.int .i64 h.rep) := fun X => cell_of_block (alloc_block X hH) 10
  have cH11 : ∀ X : Obj, (w3.alloc X).cell? ⟨w.heap.size + 1, 11, none⟩ = some (.int .i64 h.out) := fun X => cell_of_block (alloc_block X hH) 11
  have cC0 : ∀ X : Obj, (w3.alloc X).cell? ⟨w.heap.size + 1 + 1, 0, none⟩ = some (.int .i64 q.code) := fun X => cell_of_block (alloc_block X hC) 0
  have cC1 : ∀ X : Obj, (w3.alloc X).cell? ⟨w.heap.size + 1 + 1, 1, none⟩ = some (.int .i64 q.a) := fun X => cell_of_block (alloc_block X hC) 1
  have cC2 : ∀ X : Obj, (w3.alloc X).cell? ⟨w.heap.size + 1 + 1, 2, none⟩ = some (.int .i64 q.b) := fun X => cell_of_block (alloc_block X hC) 2
  have cC3 : ∀ X : Obj, (w3.alloc X).cell? ⟨w.heap.size + 1 + 1, 3, none⟩ = some (.int .i64 q.c) := fun X => cell_of_block (alloc_block X hC) 3
  have cR0 : ∀ X : Obj, (w3.alloc X).cell? ⟨w.heap.size + 1 + 1 + 1, 0, none⟩ = some (.int .i64 0) := fun X => cell_of_block (alloc_block X hR) 0
  have fR0 : ∀ X : Obj, (w3.alloc X).frozen? ⟨w.heap.size + 1 + 1 + 1, 0, none⟩ = false := fun X => unfrozen_of_block (alloc_block X hR) 0
  have cR1 : ∀ X : Obj, (w3.alloc X).cell? ⟨w.heap.size + 1 + 1 + 1, 1, none⟩ = some (.int .i64 0) := fun X => cell_of_block (alloc_block X hR) 1
  have fR1 : ∀ X : Obj, (w3.alloc X).frozen? ⟨w.heap.size + 1 + 1 + 1, 1, none⟩ = false := fun X => unfrozen_of_block (alloc_block X hR) 1
  have cR2 : ∀ X : Obj, (w3.alloc X).cell? ⟨w.heap.size + 1 + 1 + 1, 2, none⟩ = some (.int .i64 0) := fun X => cell_of_block (alloc_block X hR) 2
  have fR2 : ∀ X : Obj, (w3.alloc X).frozen? ⟨w.heap.size + 1 + 1 + 1, 2, none⟩ = false := fun X => unfrozen_of_block (alloc_block X hR) 2
  have cR3 : ∀ X : Obj, (w3.alloc X).cell? ⟨w.heap.size + 1 + 1 + 1, 3, none⟩ = some (.int .i64 0) := fun X => cell_of_block (alloc_block X hR) 3
  have fR3 : ∀ X : Obj, (w3.alloc X).frozen? ⟨w.heap.size + 1 + 1 + 1, 3, none⟩ = false := fun X => unfrozen_of_block (alloc_block X hR) 3
  have cR4 : ∀ X : Obj, (w3.alloc X).cell? ⟨w.heap.size + 1 + 1 + 1, 4, none⟩ = some (.int .i64 0) := fun X => cell_of_block (alloc_block X hR) 4
  have fR4 : ∀ X : Obj, (w3.alloc X).frozen? ⟨w.heap.size + 1 + 1 + 1, 4, none⟩ = false := fun X => unfrozen_of_block (alloc_block X hR) 4
  have cR5 : ∀ X : Obj, (w3.alloc X).cell? ⟨w.heap.size + 1 + 1 + 1, 5, none⟩ = some (.int .i64 0) := fun X => cell_of_block (alloc_block X hR) 5
  have fR5 : ∀ X : Obj, (w3.alloc X).frozen? ⟨w.heap.size + 1 + 1 + 1, 5, none⟩ = false := fun X => unfrozen_of_block (alloc_block X hR) 5
  have cR6 : ∀ X : Obj, (w3.alloc X).cell? ⟨w.heap.size + 1 + 1 + 1, 6, none⟩ = some (.int .i64 0) := fun X => cell_of_block (alloc_block X hR) 6
  have fR6 : ∀ X : Obj, (w3.alloc X).frozen? ⟨w.heap.size + 1 + 1 + 1, 6, none⟩ = false := fun X => unfrozen_of_block (alloc_block X hR) 6
  have cR7 : ∀ X : Obj, (w3.alloc X).cell? ⟨w.heap.size + 1 + 1 + 1, 7, none⟩ = some (.bool false) := fun X => cell_of_block (alloc_block X hR) 7
  have fR7 : ∀ X : Obj, (w3.alloc X).frozen? ⟨w.heap.size + 1 + 1 + 1, 7, none⟩ = false := fun X => unfrozen_of_block (alloc_block X hR) 7
  have cR8 : ∀ X : Obj, (w3.alloc X).cell? ⟨w.heap.size + 1 + 1 + 1, 8, none⟩ = some (.int .i64 0) := fun X => cell_of_block (alloc_block X hR) 8
  have fR8 : ∀ X : Obj, (w3.alloc X).frozen? ⟨w.heap.size + 1 + 1 + 1, 8, none⟩ = false := fun X => unfrozen_of_block (alloc_block X hR) 8
  have cR9 : ∀ X : Obj, (w3.alloc X).cell? ⟨w.heap.size + 1 + 1 + 1, 9, none⟩ = some (.int .i64 0) := fun X => cell_of_block (alloc_block X hR) 9
  have fR9 : ∀ X : Obj, (w3.alloc X).frozen? ⟨w.heap.size + 1 + 1 + 1, 9, none⟩ = false := fun X => unfrozen_of_block (alloc_block X hR) 9
  have cR10 : ∀ X : Obj, (w3.alloc X).cell? ⟨w.heap.size + 1 + 1 + 1, 10, none⟩ = some (.int .i64 0) := fun X => cell_of_block (alloc_block X hR) 10
  have fR10 : ∀ X : Obj, (w3.alloc X).frozen? ⟨w.heap.size + 1 + 1 + 1, 10, none⟩ = false := fun X => unfrozen_of_block (alloc_block X hR) 10
  have cR11 : ∀ X : Obj, (w3.alloc X).cell? ⟨w.heap.size + 1 + 1 + 1, 11, none⟩ = some (.int .i64 0) := fun X => cell_of_block (alloc_block X hR) 11
  have fR11 : ∀ X : Obj, (w3.alloc X).frozen? ⟨w.heap.size + 1 + 1 + 1, 11, none⟩ = false := fun X => unfrozen_of_block (alloc_block X hR) 11
  by_cases q1 : q.code = 1
  case pos =>
    have E1 : askedHd q = ⟨1, q, newHd.tim, newHd.whe, newHd.had, newHd.cnt, newHd.beg, newHd.rep, newHd.out⟩ := by simp [askedHd, startI, q1, newHd]
    have q1b : (q.code == 1) = true := by simpa using q1
    clear q1
    go_wp2
    obtain ⟨X, hX⟩ : ∃ X : Obj, X = .cells (hdCells ⟨1, q, newHd.tim, newHd.whe, newHd.had, newHd.cnt, newHd.beg, newHd.rep, newHd.out⟩) 35 := ⟨_, rfl⟩
    have r0 := set_hand (h := ⟨1, q, newHd.tim, newHd.whe, newHd.had, newHd.cnt, newHd.beg, newHd.rep, newHd.out⟩) (alloc_block X hR)
    have hb := b_set_hand (n := w.heap.size) (B := w.heap.size + 1 + 1 + 1) (h := ⟨1, q, newHd.tim, newHd.whe, newHd.had, newHd.cnt, newHd.beg, newHd.rep, newHd.out⟩) (kw.alloc kw.size X) (by omega)
    rw [hX] at r0 hb
    have hq := r0
    clear r0
    have r0 := cell_of_block hq 0
    have r1 := cell_of_block hq 1
    have r2 := cell_of_block hq 2
    have r3 := cell_of_block hq 3
    have r4 := cell_of_block hq 4
    have r5 := cell_of_block hq 5
    have r6 := cell_of_block hq 6
    have r7 := cell_of_block hq 7
    have r8 := cell_of_block hq 8
    have r9 := cell_of_block hq 9
    have r10 := cell_of_block hq 10
    have r11 := cell_of_block hq 11
    exact bodyPost_ret (v := .tuple #[hdV ⟨1, q, newHd.tim, newHd.whe, newHd.had, newHd.cnt, newHd.beg, newHd.rep, newHd.out⟩, .int .i64 0]) (by simp [results, Try.results9, go_sem, r0, r1, r2, r3, r4, r5, r6, r7, r8, r9, r10, r11]) rfl ⟨ret_hi (E0.out.trans E1) E2.out, hb⟩
  have q1b : (q.code == 1) = false := by simpa using q1
  by_cases q2 : q.code = 2
  case pos =>
    have E1 : askedHd q = ⟨5, q, newHd.tim, newHd.whe, newHd.had, newHd.cnt, newHd.beg, newHd.rep, newHd.out⟩ := by simp [askedHd, startI, q2, newHd]
    have q2b : (q.code == 2) = true := by simpa using q2
    clear q2
    go_wp2
    obtain ⟨X, hX⟩ : ∃ X : Obj, X = .cells (hdCells ⟨5, q, newHd.tim, newHd.whe, newHd.had, newHd.cnt, newHd.beg, newHd.rep, newHd.out⟩) 35 := ⟨_, rfl⟩
    have r0 := set_hand (h := ⟨5, q, newHd.tim, newHd.whe, newHd.had, newHd.cnt, newHd.beg, newHd.rep, newHd.out⟩) (alloc_block X hR)
    have hb := b_set_hand (n := w.heap.size) (B := w.heap.size + 1 + 1 + 1) (h := ⟨5, q, newHd.tim, newHd.whe, newHd.had, newHd.cnt, newHd.beg, newHd.rep, newHd.out⟩) (kw.alloc kw.size X) (by omega)
    rw [hX] at r0 hb
    have hq := r0
    clear r0
    have r0 := cell_of_block hq 0
    have r1 := cell_of_block hq 1
    have r2 := cell_of_block hq 2
    have r3 := cell_of_block hq 3
    have r4 := cell_of_block hq 4
    have r5 := cell_of_block hq 5
    have r6 := cell_of_block hq 6
    have r7 := cell_of_block hq 7
    have r8 := cell_of_block hq 8
    have r9 := cell_of_block hq 9
    have r10 := cell_of_block hq 10
    have r11 := cell_of_block hq 11
    exact bodyPost_ret (v := .tuple #[hdV ⟨5, q, newHd.tim, newHd.whe, newHd.had, newHd.cnt, newHd.beg, newHd.rep, newHd.out⟩, .int .i64 0]) (by simp [results, Try.results9, go_sem, r0, r1, r2, r3, r4, r5, r6, r7, r8, r9, r10, r11]) rfl ⟨ret_hi (E0.out.trans E1) E2.out, hb⟩
  have q2b : (q.code == 2) = false := by simpa using q2
  by_cases q3 : q.code = 3
  case pos =>
    have E1 : askedHd q = ⟨5, q, newHd.tim, newHd.whe, newHd.had, newHd.cnt, newHd.beg, newHd.rep, newHd.out⟩ := by simp [askedHd, startI, q3, newHd]
    have q3b : (q.code == 3) = true := by simpa using q3
    clear q3
    go_wp2
    obtain ⟨X, hX⟩ : ∃ X : Obj, X = .cells (hdCells ⟨5, q, newHd.tim, newHd.whe, newHd.had, newHd.cnt, newHd.beg, newHd.rep, newHd.out⟩) 35 := ⟨_, rfl⟩
    have r0 := set_hand (h := ⟨5, q, newHd.tim, newHd.whe, newHd.had, newHd.cnt, newHd.beg, newHd.rep, newHd.out⟩) (alloc_block X hR)
    have hb := b_set_hand (n := w.heap.size) (B := w.heap.size + 1 + 1 + 1) (h := ⟨5, q, newHd.tim, newHd.whe, newHd.had, newHd.cnt, newHd.beg, newHd.rep, newHd.out⟩) (kw.alloc kw.size X) (by omega)
    rw [hX] at r0 hb
    have hq := r0
    clear r0
    have r0 := cell_of_block hq 0
    have r1 := cell_of_block hq 1
    have r2 := cell_of_block hq 2
    have r3 := cell_of_block hq 3
    have r4 := cell_of_block hq 4
    have r5 := cell_of_block hq 5
    have r6 := cell_of_block hq 6
    have r7 := cell_of_block hq 7
    have r8 := cell_of_block hq 8
    have r9 := cell_of_block hq 9
    have r10 := cell_of_block hq 10
    have r11 := cell_of_block hq 11
    exact bodyPost_ret (v := .tuple #[hdV ⟨5, q, newHd.tim, newHd.whe, newHd.had, newHd.cnt, newHd.beg, newHd.rep, newHd.out⟩, .int .i64 0]) (by simp [results, Try.results9, go_sem, r0, r1, r2, r3, r4, r5, r6, r7, r8, r9, r10, r11]) rfl ⟨ret_hi (E0.out.trans E1) E2.out, hb⟩
  have q3b : (q.code == 3) = false := by simpa using q3
  by_cases q4 : q.code = 4
  case pos =>
    have E1 : askedHd q = ⟨8, q, newHd.tim, newHd.whe, newHd.had, newHd.cnt, newHd.beg, newHd.rep, newHd.out⟩ := by simp [askedHd, startI, q4, newHd]
    have q4b : (q.code == 4) = true := by simpa using q4
    clear q4
    go_wp2
    obtain ⟨X, hX⟩ : ∃ X : Obj, X = .cells (hdCells ⟨8, q, newHd.tim, newHd.whe, newHd.had, newHd.cnt, newHd.beg, newHd.rep, newHd.out⟩) 35 := ⟨_, rfl⟩
    have r0 := set_hand (h := ⟨8, q, newHd.tim, newHd.whe, newHd.had, newHd.cnt, newHd.beg, newHd.rep, newHd.out⟩) (alloc_block X hR)
    have hb := b_set_hand (n := w.heap.size) (B := w.heap.size + 1 + 1 + 1) (h := ⟨8, q, newHd.tim, newHd.whe, newHd.had, newHd.cnt, newHd.beg, newHd.rep, newHd.out⟩) (kw.alloc kw.size X) (by omega)
    rw [hX] at r0 hb
    have hq := r0
    clear r0
    have r0 := cell_of_block hq 0
    have r1 := cell_of_block hq 1
    have r2 := cell_of_block hq 2
    have r3 := cell_of_block hq 3
    have r4 := cell_of_block hq 4
    have r5 := cell_of_block hq 5
    have r6 := cell_of_block hq 6
    have r7 := cell_of_block hq 7
    have r8 := cell_of_block hq 8
    have r9 := cell_of_block hq 9
    have r10 := cell_of_block hq 10
    have r11 := cell_of_block hq 11
    exact bodyPost_ret (v := .tuple #[hdV ⟨8, q, newHd.tim, newHd.whe, newHd.had, newHd.cnt, newHd.beg, newHd.rep, newHd.out⟩, .int .i64 0]) (by simp [results, Try.results9, go_sem, r0, r1, r2, r3, r4, r5, r6, r7, r8, r9, r10, r11]) rfl ⟨ret_hi (E0.out.trans E1) E2.out, hb⟩
  have q4b : (q.code == 4) = false := by simpa using q4
  by_cases q5 : q.code = 5
  case pos =>
    have E1 : askedHd q = ⟨14, q, newHd.tim, newHd.whe, newHd.had, newHd.cnt, newHd.beg, newHd.rep, newHd.out⟩ := by simp [askedHd, startI, q5, newHd]
    have q5b : (q.code == 5) = true := by simpa using q5
    clear q5
    go_wp2
    obtain ⟨X, hX⟩ : ∃ X : Obj, X = .cells (hdCells ⟨14, q, newHd.tim, newHd.whe, newHd.had, newHd.cnt, newHd.beg, newHd.rep, newHd.out⟩) 35 := ⟨_, rfl⟩
    have r0 := set_hand (h := ⟨14, q, newHd.tim, newHd.whe, newHd.had, newHd.cnt, newHd.beg, newHd.rep, newHd.out⟩) (alloc_block X hR)
    have hb := b_set_hand (n := w.heap.size) (B := w.heap.size + 1 + 1 + 1) (h := ⟨14, q, newHd.tim, newHd.whe, newHd.had, newHd.cnt, newHd.beg, newHd.rep, newHd.out⟩) (kw.alloc kw.size X) (by omega)
    rw [hX] at r0 hb
    have hq := r0
    clear r0
    have r0 := cell_of_block hq 0
    have r1 := cell_of_block hq 1
    have r2 := cell_of_block hq 2
    have r3 := cell_of_block hq 3
    have r4 := cell_of_block hq 4
    have r5 := cell_of_block hq 5
    have r6 := cell_of_block hq 6
    have r7 := cell_of_block hq 7
    have r8 := cell_of_block hq 8
    have r9 := cell_of_block hq 9
    have r10 := cell_of_block hq 10
    have r11 := cell_of_block hq 11
    exact bodyPost_ret (v := .tuple #[hdV ⟨14, q, newHd.tim, newHd.whe, newHd.had, newHd.cnt, newHd.beg, newHd.rep, newHd.out⟩, .int .i64 0]) (by simp [results, Try.results9, go_sem, r0, r1, r2, r3, r4, r5, r6, r7, r8, r9, r10, r11]) rfl ⟨ret_hi (E0.out.trans E1) E2.out, hb⟩
  have q5b : (q.code == 5) = false := by simpa using q5
  by_cases q6 : q.code = 6
  case pos =>
    have E1 : askedHd q = ⟨18, q, newHd.tim, newHd.whe, newHd.had, newHd.cnt, newHd.beg, newHd.rep, newHd.out⟩ := by simp [askedHd, startI, q6, newHd]
    have q6b : (q.code == 6) = true := by simpa using q6
    clear q6
    go_wp2
    obtain ⟨X, hX⟩ : ∃ X : Obj, X = .cells (hdCells ⟨18, q, newHd.tim, newHd.whe, newHd.had, newHd.cnt, newHd.beg, newHd.rep, newHd.out⟩) 35 := ⟨_, rfl⟩
    have r0 := set_hand (h := ⟨18, q, newHd.tim, newHd.whe, newHd.had, newHd.cnt, newHd.beg, newHd.rep, newHd.out⟩) (alloc_block X hR)
    have hb := b_set_hand (n := w.heap.size) (B := w.heap.size + 1 + 1 + 1) (h := ⟨18, q, newHd.tim, newHd.whe, newHd.had, newHd.cnt, newHd.beg, newHd.rep, newHd.out⟩) (kw.alloc kw.size X) (by omega)
    rw [hX] at r0 hb
    have hq := r0
    clear r0
    have r0 := cell_of_block hq 0
    have r1 := cell_of_block hq 1
    have r2 := cell_of_block hq 2
    have r3 := cell_of_block hq 3
    have r4 := cell_of_block hq 4
    have r5 := cell_of_block hq 5
    have r6 := cell_of_block hq 6
    have r7 := cell_of_block hq 7
    have r8 := cell_of_block hq 8
    have r9 := cell_of_block hq 9
    have r10 := cell_of_block hq 10
    have r11 := cell_of_block hq 11
    exact bodyPost_ret (v := .tuple #[hdV ⟨18, q, newHd.tim, newHd.whe, newHd.had, newHd.cnt, newHd.beg, newHd.rep, newHd.out⟩, .int .i64 0]) (by simp [results, Try.results9, go_sem, r0, r1, r2, r3, r4, r5, r6, r7, r8, r9, r10, r11]) rfl ⟨ret_hi (E0.out.trans E1) E2.out, hb⟩
  have q6b : (q.code == 6) = false := by simpa using q6
  exact absurd h3 (by simp [callB, namedB, q1, q2, q3, q4, q5, q6])

end Go.Proofs.Ytcapaphndemaiaa
