package tests

import (
	"math/rand"
	"slices"
	"testing"

	"loop.example/g00743/impl"
)

// The table of the chapter, line by line, by the numbers of the document.
func expectedStop(p impl.Plan, m impl.Mem, w int64, h impl.Hand) (impl.Done, bool) {
	if !expectedFit(p, m, w, h) {
		return impl.Done{}, false
	}
	d := impl.Done{Mem: clonedMem(m), Hand: h}
	if h.At == 5 && h.Call.Code == 2 {
		return expectedLookToStop(d), true
	}
	if h.At != 6 || h.Timer == -1 {
		return impl.Done{}, false
	}
	k := &d.Mem.Timers[h.Timer]
	if k.Status != 2 || k.Place == -1 {
		return impl.Done{}, false
	}
	k.Status = 5
	d.Mem.Procs[k.Place].Deleted++
	d.Hand = impl.Hand{Timer: -1, Reply: 2}
	return d, true
}

func expectedLookToStop(d impl.Done) impl.Done {
	id := d.Hand.Call.A
	if id >= int64(len(d.Mem.Timers)) {
		d.Hand = impl.Hand{Timer: -1, Reply: 5}
		return d
	}
	k := &d.Mem.Timers[id]
	if when, is := effect(*k); is {
		d.Ev = impl.Ev{Kind: 2, Timer: id, Gen: k.Gen, When: when, At: d.Mem.Clock}
		d.Hand.Timer, d.Hand.At = id, 6
		k.Status = 2
		return d
	}
	if k.Status == 0 || k.Status == 5 || k.Status == 7 {
		d.Hand = impl.Hand{Timer: -1, Reply: 3}
	}
	return d
}

var stopping = stepper{"StopStep", impl.StopStep, expectedStop}

func stopOf(timer int64) impl.Call { return impl.Call{Code: impl.OpStop, A: timer} }

// stopHands are fit in variedMem, each at a step that can be made, of each outcome; and one at rest.
func stopHands() []impl.Hand {
	list := []impl.Hand{}
	for _, id := range []int64{0, 1, 2, 3, 4, 5, 6, 10} {
		list = append(list, impl.Hand{At: impl.AtLook, Call: stopOf(id), Timer: -1})
	}
	return append(list, impl.Hand{At: impl.AtTurn, Call: stopOf(3), Timer: 3}, impl.Hand{At: impl.AtTurn, Call: newCall, Timer: 3}, impl.NewHand())
}

// A whole OpStop, each step of it written out, by each worker, whoever holds the heap: of one that waits, of one that is earlier, of one that is later, and of one that is due already.
func TestStopWhole(t *testing.T) {
	for _, c := range []struct{ timer, when, gen, place, deleted int64 }{{0, 150, 20, 0, 2}, {1, 95, 21, 0, 2}, {4, 170, 24, 1, 1}, {9, 60, 29, 1, 1}} {
		for w := range variedPlan.Workers {
			m := variedMem()
			h, _ := impl.Called(variedPlan, impl.NewHand(), stopOf(c.timer))
			want := impl.Done{Mem: clonedMem(m), Hand: impl.Hand{At: impl.AtTurn, Call: stopOf(c.timer), Timer: c.timer},
				Ev: impl.Ev{Kind: impl.EvCancel, Timer: c.timer, Gen: c.gen, When: c.when, At: 100}}
			want.Mem.Timers[c.timer].Status = impl.StModifying
			stopping.check(t, variedPlan, m, w, h, want)

			before := want
			want.Mem = clonedMem(want.Mem)
			want.Mem.Timers[c.timer].Status = impl.StDeleted
			want.Mem.Procs[c.place].Deleted = c.deleted
			want.Hand, want.Ev = impl.Hand{Timer: -1, Reply: impl.RpYes}, impl.Ev{}
			stopping.check(t, variedPlan, before.Mem, w, before.Hand, want)
			stopping.checkRefused(t, variedPlan, want.Mem, w, want.Hand) // and that was all

			before = want
			want.Hand = impl.Hand{Timer: -1, Reply: impl.RpNo} // who is stopped is not stopped once more
			stopping.check(t, variedPlan, before.Mem, w, h, want)
		}
	}
}

// What the hand holds stays beside its Timer and At, but of a reply nothing does.
func TestLookToStopAtEachStatus(t *testing.T) {
	stopping.checkLookAtEachStatus(t, stopOf(2), func(c standing, want *impl.Done) {
		if c.told >= 0 {
			want.Mem.Timers[2].Status = impl.StModifying
			want.Hand.Timer, want.Hand.At = 2, impl.AtTurn
			want.Ev = impl.Ev{Kind: 2, Timer: 2, Gen: want.Mem.Timers[2].Gen, When: c.told, At: want.Mem.Clock}
		} else if !c.stays {
			want.Hand = impl.Hand{Timer: -1, Reply: 3}
		}
	})
}

// Who is changed, or rings, is looked at again and again, by as many as there are, till he stands in another way.
func TestLookToStopStaysWhileSomebodyIsAtIt(t *testing.T) {
	stopping.checkStays(t, stopOf(1))
	for timer := int64(-1); timer < 2; timer++ {
		h := impl.Hand{At: impl.AtLook, Call: stopOf(1), Timer: timer}
		again := memOf(memPlan, 50, waiting(40, 0), waiting(70, 1))
		want := impl.Done{Mem: clonedMem(again), Hand: impl.Hand{At: impl.AtTurn, Call: h.Call, Timer: 1}, Ev: impl.Ev{Kind: 2, Timer: 1, Gen: 1, When: 70, At: 50}}
		want.Mem.Timers[1].Status = impl.StModifying
		stopping.check(t, memPlan, again, 2, h, want)
		gone := memOf(memPlan, 50, waiting(40, 0), outside(impl.StNone, 45))
		stopping.check(t, memPlan, gone, 2, h, impl.Done{Mem: gone, Hand: impl.Hand{Timer: -1, Reply: impl.RpNo}})
	}
}

// A timer that the plan may have need not be there: the last one that is, and the one behind it, in each plan.
func TestLookToStopWhoIsThere(t *testing.T) {
	for most := int64(1); most <= timersLimit; most++ {
		p := impl.Plan{Procs: 2, Workers: 3, Timers: most}
		for count := range most + 1 {
			timers := []impl.Timer{}
			for i := range count {
				timers = append(timers, waiting(200+i, i%2))
			}
			m := memOf(p, 100, timers...)
			for id := range most {
				h := impl.Hand{At: impl.AtLook, Call: stopOf(id), Timer: count - 1, When: 3, Had: true, Count: 4, Begin: 5, Reply: 2, Out: 6}
				want := impl.Done{Mem: clonedMem(m), Hand: impl.Hand{Timer: -1, Reply: impl.RpNone}}
				if id < count {
					want.Hand = h
					want.Hand.At, want.Hand.Timer = impl.AtTurn, id
					want.Mem.Timers[id].Status = impl.StModifying
					want.Ev = impl.Ev{Kind: 2, Timer: id, Gen: 1, When: 200 + id, At: 100}
				}
				stopping.check(t, p, m, 1, h, want)
			}
		}
	}
}

func TestLookToStopOfAnotherCode(t *testing.T) {
	stopping.checkLookOfAnotherCode(t, impl.OpStop)
}

// Deleted is one more than the stopped ones beside it.
func TestTurnAtEachStatus(t *testing.T) {
	stopping.checkTurnAtEachStatus(t, impl.Hand{At: impl.AtTurn, When: 8, Had: true}, func(place int64, want *impl.Done) {
		want.Mem.Timers[1].Status = impl.StDeleted
		want.Mem.Procs[place].Deleted = []int64{2, 3, 1}[place]
		want.Hand = impl.Hand{Timer: -1, Reply: 2}
	})
}

func TestTurnOfNoTimer(t *testing.T) {
	stopping.checkTurnOfNoTimer(t, impl.AtTurn)
}

// Deleted is counted of the Place of the timer alone, from none up to as many as there may be, in each processor of each plan.
func TestTurnCountsInItsPlace(t *testing.T) {
	for procs := int64(1); procs <= procsLimit; procs++ {
		p := impl.Plan{Procs: procs, Workers: workersLimit, Timers: timersLimit}
		for place := range procs {
			timers := []impl.Timer{}
			for i := range int64(timersLimit) {
				timers = append(timers, turned(impl.StModifying, 90+i%7, 0, (place+max(0, i-20))%procs))
			}
			m := memOf(p, 50, timers...)
			want := make([]int64, procs)
			for i := range int64(timersLimit) {
				d, is := impl.StopStep(p, m, i%workersLimit, impl.Hand{At: impl.AtTurn, Call: stopOf(i), Timer: i})
				if !is || !expectedMemOk(p, d.Mem) || d.Mem.Timers[i].Status != impl.StDeleted {
					t.Fatalf("AtTurn of %d in %v is %+v, %v", i, m, d, is)
				}
				want[timers[i].Place]++
				for j, x := range d.Mem.Procs {
					if x.Deleted != want[j] || !slices.Equal(x.Heap, m.Procs[j].Heap) || x.Lock != -1 || x.Earliest != -1 {
						t.Fatalf("AtTurn of %d in %v is %v", i, m, d.Mem)
					}
				}
				m = d.Mem
			}
		}
	}
}

// Earliest stays as it was: it may be too early by then, but that is for who tidies the heap.
func TestStopLeavesEarliestAndLocks(t *testing.T) {
	for w := range variedPlan.Workers {
		for lock := int64(-1); lock < variedPlan.Workers; lock++ {
			for _, earliest := range []int64{0, 94, 95} {
				m := variedMem()
				m.Procs[0].Lock, m.Procs[1].Lock, m.Procs[0].Earliest = lock, w, earliest
				m.Procs[1].Earliest = timeLimit
				h := impl.Hand{At: impl.AtLook, Call: stopOf(1), Timer: -1}
				for h.At != impl.AtRest {
					d, is := impl.StopStep(variedPlan, m, w, h)
					if !is || d.Mem.Procs[0].Earliest != earliest || d.Mem.Procs[1].Earliest != timeLimit || d.Mem.Procs[0].Lock != lock || d.Mem.Procs[1].Lock != w || d.Mem.Clock != 100 {
						t.Fatalf("at %d of %v there is %+v, %v", h.At, m, d, is)
					}
					m, h = d.Mem, d.Hand
				}
			}
		}
	}
}

func TestStopAtOtherAts(t *testing.T) {
	stopping.checkOtherAts(t, variedPlan, variedMem(), []int64{impl.AtLook, impl.AtTurn}, stopOf(0), stopOf(3))
}

func TestStopOfEachWorker(t *testing.T) {
	stopping.checkEachWorker(t, variedPlan, variedMem(), stopHands())
}

func TestStopTimerThatIsNotThere(t *testing.T) {
	stopping.checkTimerNotThere(t, variedPlan, variedMem(), stopHands())
}

func TestStopArgumentsNotRight(t *testing.T) {
	stopping.checkUnfitArguments(t, variedPlan, variedMem(), stopHands())
}

// All that is of this chapter, and a bit of all else, of each timer in a memory with one of each status.
func TestStopAsToldOfEachTimer(t *testing.T) {
	m := variedMem()
	for id := range variedPlan.Timers {
		for timer := int64(-1); timer <= int64(len(m.Timers)); timer++ {
			for w := int64(-1); w <= variedPlan.Workers; w++ {
				for at := range int64(atLimit + 2) {
					for _, c := range []impl.Call{stopOf(id), {Code: impl.OpReset, A: id, B: 5}, {Code: impl.OpRecv, A: id}, newCall} {
						stopping.checkAnswers(t, variedPlan, m, w, impl.Hand{At: at, Call: c, Timer: timer, When: 70, Begin: 9})
					}
				}
			}
		}
	}
}

// anyStopHand is mostly fit, and at a step of this chapter, of a timer that can be turned where there is one.
func anyStopHand(r *rand.Rand, p impl.Plan, m impl.Mem) impl.Hand {
	h := anyHand(r, p, 60)
	if r.Intn(5) > 0 {
		h.At = impl.AtLook + r.Int63n(2)
	}
	if r.Intn(4) > 0 {
		h.Call = stopOf(r.Int63n(p.Timers))
	}
	if r.Intn(5) > 0 {
		h.Timer = r.Int63n(int64(len(m.Timers))+1) - 1
	}
	if k := slices.IndexFunc(m.Timers, func(k impl.Timer) bool { return k.Status == impl.StModifying && k.Place >= 0 }); k >= 0 && r.Intn(3) == 0 {
		h.At, h.Timer = impl.AtTurn, int64(k)
	}
	return h
}

func TestStopAsToldOfMixtures(t *testing.T) {
	made, replies, refused := stopping.checkMixtures(t, 10, anyStopHand)
	for _, count := range []int{made[impl.AtLook], made[impl.AtTurn], replies[impl.RpYes], replies[impl.RpNo], replies[impl.RpNone], refused} {
		if count < 500 {
			t.Errorf("only so few: %v, %v, %d", made, replies, refused)
		}
	}
}

// A stopper is a worker that stops a timer.
type stopper struct{ caller }

func newStopper(t *testing.T, p impl.Plan, w int64, id int64) stopper {
	t.Helper()
	return stopper{newCaller(t, p, w, stopOf(id))}
}

// step makes one step, and sees that it turns only the word of its timer, and tells it once.
func (s *stopper) step(t *testing.T, p impl.Plan, m impl.Mem) impl.Mem {
	t.Helper()
	id, at, before := s.hand.Call.A, s.hand.At, s.hand
	d := s.oneStep(t, stopping, p, m)
	others := clonedMem(m)
	if id < int64(len(m.Timers)) && m.Timers[id] != d.Mem.Timers[id] {
		if s.hand == before {
			t.Fatalf("at %d %v came to be %v, but he stays", at, m.Timers[id], d.Mem.Timers[id])
		}
		others.Timers[id].Status = d.Mem.Timers[id].Status
		if others.Timers[id].Status == impl.StDeleted {
			others.Procs[others.Timers[id].Place].Deleted++
		}
	}
	if !sameMem(d.Mem, others) {
		t.Fatalf("at %d of timer %d %v came to be %v", at, id, m, d.Mem)
	}
	if (d.Ev != impl.Ev{}) != (at == impl.AtLook && d.Hand.At == impl.AtTurn) || len(s.told) > 1 {
		t.Fatalf("at %d there is told %+v", at, d.Ev)
	}
	return d.Mem
}

// checkSilent sees that it does not wait, is not due at any time, rings in no heap, and is out of it when that is tidied.
func checkSilent(t *testing.T, p impl.Plan, m impl.Mem, id int64) {
	t.Helper()
	k := m.Timers[id]
	if _, is := effect(k); is || k.Status != impl.StDeleted {
		t.Fatalf("who is stopped is %v", k)
	}
	last := impl.Elapsed(p, m, timeLimit)
	if slices.Contains(impl.DueIn(p, m), id) || slices.Contains(impl.DueIn(p, last), id) {
		t.Fatalf("who is stopped is due: %d of %v", id, m)
	}
	after, rung := rungOut(t, p, last, k.Place)
	if slices.Contains(rung, id) {
		t.Fatalf("who is stopped rings: %d of %v", id, m)
	}
	if out := after.Timers[id]; out.Status != impl.StRemoved || out.Place != -1 || impl.FindSlot(after.Procs[k.Place].Heap, id) != -1 {
		t.Fatalf("who is stopped is left as %v", out)
	}
}

// Promise 10: who is stopped does not stand waiting: of each timer that can be stopped it is told what it was set to, and from then on it is not due, neither while it is turned nor later; all others are due as before.
func TestPromise10WhoIsStoppedDoesNotRing(t *testing.T) {
	stops := 0
	for _, c := range tidyMems(t) {
		for id, before := range c.m.Timers {
			when, is := effect(before)
			s := newStopper(t, c.p, int64(id)%c.p.Workers, int64(id))
			m := s.step(t, c.p, c.m)
			if !is {
				want := impl.Resting(impl.RpNo, 0)
				if before.Status == impl.StModifying || before.Status == impl.StRunning {
					want = impl.Hand{At: impl.AtLook, Call: stopOf(int64(id)), Timer: -1}
				}
				if s.hand != want || !sameMem(m, c.m) {
					t.Fatalf("%v is stopped by %+v", before, s.hand)
				}
				continue
			}
			stops++
			if !slices.Equal(s.told, []impl.Ev{{Kind: impl.EvCancel, Timer: int64(id), Gen: before.Gen, When: when, At: c.m.Clock}}) {
				t.Fatalf("%v is told as %+v", before, s.told)
			}
			rest := slices.DeleteFunc(impl.DueIn(c.p, c.m), func(k int64) bool { return k == int64(id) })
			if !slices.Equal(impl.DueIn(c.p, m), rest) {
				t.Fatalf("while %d is turned in %v, due are %v", id, c.m, impl.DueIn(c.p, m))
			}
			m = s.step(t, c.p, m)
			if s.hand != impl.Resting(impl.RpYes, 0) || !slices.Equal(impl.DueIn(c.p, m), rest) {
				t.Fatalf("behind stopping %d in %v, due are %v, and it is replied %+v", id, c.m, impl.DueIn(c.p, m), s.hand)
			}
			checkSilent(t, c.p, m, int64(id))
		}
	}
	if stops < 500 {
		t.Errorf("only %d were stopped", stops)
	}
}

// Promise 10: what is cancelled is what was armed: from being made to being taken out, by different workers.
func TestPromise10CancelsWhatWasArmed(t *testing.T) {
	p := impl.Plan{Procs: 3, Workers: 7, Timers: 4}
	for maker := range p.Workers {
		for w := range p.Workers {
			m := memOf(p, 20, waiting(25, 0))
			c := newCreator(t, p, m, maker, impl.Call{Code: impl.OpNew, B: 10, C: 5}, 0)
			early := newStopper(t, p, w, 1)
			if left := early.step(t, p, m); early.hand != impl.Resting(impl.RpNone, 0) || !sameMem(left, m) {
				t.Fatalf("ahead of its being there: %+v", early.hand)
			}
			s := newStopper(t, p, w, 1)
			armed := impl.Ev{}
			for c.hand.At != impl.AtRest {
				d := c.step(t, p, m)
				if m = d.Mem; d.Ev != (impl.Ev{}) {
					armed = d.Ev
				}
				if s.hand.At == impl.AtLook { // while it is made he stays
					m = s.step(t, p, m)
				}
				if (len(s.told) > 0) != (armed != impl.Ev{}) {
					t.Fatalf("it was told %+v before %+v", s.told, armed)
				}
			}
			if !slices.Equal(s.told, []impl.Ev{{Kind: impl.EvCancel, Timer: armed.Timer, Gen: armed.Gen, When: armed.When, At: armed.At}}) {
				t.Fatalf("armed is %+v, cancelled %+v", armed, s.told)
			}
			m = s.step(t, p, impl.Elapsed(p, m, 50)) // its time has come meanwhile
			if s.hand != impl.Resting(impl.RpYes, 0) || m.Timers[1].Place != expectedHome(p, maker) {
				t.Fatalf("%+v, %v", s.hand, m)
			}
			checkSilent(t, p, m, 1)
		}
	}
}

// Promise 10: of many who stop the same ones by turns in any order one is told yes for each timer, once he has turned it; while he is at it the others stay, and behind it they are told no.
func TestPromise10ManyStopTheSame(t *testing.T) {
	r := rand.New(rand.NewSource(100))
	waits := 0
	for range 300 {
		p := impl.Plan{Procs: 1 + r.Int63n(procsLimit), Workers: 2 + r.Int63n(workersLimit-1), Timers: 4}
		m := memOf(p, 50, waiting(r.Int63n(90), r.Int63n(p.Procs)), turned(impl.StEarlier, 60+r.Int63n(9), 40+r.Int63n(20), r.Int63n(p.Procs)), turned(impl.StLater, 30, 30+r.Int63n(50), r.Int63n(p.Procs)))
		stoppers := []stopper{}
		for w := range p.Workers {
			stoppers = append(stoppers, newStopper(t, p, w, r.Int63n(p.Timers)))
		}
		turns, yes := map[int64]int64{}, map[int64]bool{} // who is turning a timer; whether it was turned
		for left := len(stoppers); left > 0; {
			s := &stoppers[r.Intn(len(stoppers))]
			if s.hand.At == impl.AtRest {
				continue
			}
			before := *s
			id := before.hand.Call.A
			m = s.step(t, p, m)
			who, busy := turns[id]
			switch {
			case id == 3:
				if s.hand != impl.Resting(impl.RpNone, 0) {
					t.Fatalf("there is no timer 3: %+v", s.hand)
				}
			case yes[id]:
				if s.hand != impl.Resting(impl.RpNo, 0) {
					t.Fatalf("behind its being stopped: %+v", s.hand)
				}
			case !busy:
				turns[id] = s.worker
				if s.hand.At != impl.AtTurn || s.hand.Timer != id {
					t.Fatalf("nobody is at it: %+v", s.hand)
				}
			case who == s.worker:
				yes[id] = true
				if s.hand != impl.Resting(impl.RpYes, 0) {
					t.Fatalf("he has turned it: %+v", s.hand)
				}
			default:
				if waits++; s.hand != before.hand {
					t.Fatalf("another one is at it: %+v came to be %+v", before.hand, s.hand)
				}
			}
			if s.hand.At == impl.AtRest {
				left--
			}
		}
		for id := range yes {
			checkSilent(t, p, m, id)
		}
	}
	if waits < 100 {
		t.Errorf("only %d times somebody waited", waits)
	}
}

// Promise 19: an answer is new memory, also where nothing was done.
func TestPromise19StoppingIsNewMemory(t *testing.T) {
	for _, h := range append(stopHands(), impl.Hand{At: impl.AtTake, Call: newCall, Timer: -1}) {
		for w := range variedPlan.Workers {
			stopping.checkNewMemory(t, variedPlan, variedMem(), w, h)
		}
	}
	stopping.checkNewMemories(t, 119, anyStopHand)
}

// Promise 19: it answers at every argument, and does not panic.
func TestPromise19StoppingAnswersEverywhere(t *testing.T) {
	stopping.checkEverywhere(t, variedPlan, variedMem(), stopHands())
}
