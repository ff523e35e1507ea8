package tests

import (
	"math/rand"
	"slices"
	"testing"

	"loop.example/g00743/impl"
)

// The table of the chapter, line by line, by the numbers of the document.
func expectedStop(p impl.Plan, m impl.Mem, w int64, h impl.Hand) (impl.Done, bool) {
	if !expectedFit(p, m, w, h) {
		return impl.Done{}, false
	}
	d := impl.Done{Mem: clonedMem(m), Hand: h}
	if h.At == 5 && h.Call.Code == 2 {
		return expectedLookToStop(d), true
	}
	if h.At != 6 || h.Timer == -1 {
		return impl.Done{}, false
	}
	k := &d.Mem.Timers[h.Timer]
	if k.Status != 2 || k.Place == -1 {
		return impl.Done{}, false
	}
	k.Status = 5
	d.Mem.Procs[k.Place].Deleted++
	d.Hand = impl.Hand{Timer: -1, Reply: 2}
	return d, true
}

func expectedLookToStop(d impl.Done) impl.Done {
	id := d.Hand.Call.A
	if id >= int64(len(d.Mem.Timers)) {
		d.Hand = impl.Hand{Timer: -1, Reply: 5}
		return d
	}
	k := &d.Mem.Timers[id]
	if when, is := effect(*k); is {
		d.Ev = impl.Ev{Kind: 2, Timer: id, Gen: k.Gen, When: when, At: d.Mem.Clock}
		d.Hand.Timer, d.Hand.At = id, 6
		k.Status = 2
		return d
	}
	if k.Status == 0 || k.Status == 5 || k.Status == 7 {
		d.Hand = impl.Hand{Timer: -1, Reply: 3}
	}
	return d
}

var stopping = stepper{"StopStep", impl.StopStep, expectedStop}

var stopPlan = impl.Plan{Procs: 2, Workers: 5, Timers: 12}

// stopMem has a timer of each status, of StModifying one with a Place and one without, and two more that may be there; each has numbers of its own that stopping does not change. The worker 3 holds the one heap, nobody the other one.
func stopMem() impl.Mem {
	m := memOf(stopPlan, 100,
		waiting(150, 0), turned(impl.StEarlier, 190, 95, 0), outside(impl.StNone, 20), turned(impl.StModifying, 130, 0, 1), turned(impl.StLater, 80, 170, 1),
		turned(impl.StDeleted, 85, 0, 0), turned(impl.StRunning, 90, 0, 1), outside(impl.StRemoved, 30), outside(impl.StModifying, 40), waiting(60, 1))
	for i := range m.Timers {
		k := &m.Timers[i]
		k.Period, k.Gen, k.Kind, k.Mail = 3+int64(i), 20+int64(i), int64(i)%2, 39*int64(i%3)
	}
	m.Procs[0].Lock = 3
	return m
}

func stopOf(timer int64) impl.Call { return impl.Call{Code: impl.OpStop, A: timer} }

// stopHands are fit in stopMem, each at a step that can be made, of each outcome; and one at rest.
func stopHands() []impl.Hand {
	list := []impl.Hand{}
	for _, id := range []int64{0, 1, 2, 3, 4, 5, 6, 10} {
		list = append(list, impl.Hand{At: impl.AtLook, Call: stopOf(id), Timer: -1})
	}
	return append(list, impl.Hand{At: impl.AtTurn, Call: stopOf(3), Timer: 3}, impl.Hand{At: impl.AtTurn, Call: newCall, Timer: 3}, impl.NewHand())
}

// A whole OpStop, each step of it written out, by each worker, whoever holds the heap: of one that waits, of one that is earlier, of one that is later, and of one that is due already.
func TestStopWhole(t *testing.T) {
	for _, c := range []struct{ timer, when, gen, place, deleted int64 }{{0, 150, 20, 0, 2}, {1, 95, 21, 0, 2}, {4, 170, 24, 1, 1}, {9, 60, 29, 1, 1}} {
		for w := range stopPlan.Workers {
			m := stopMem()
			h, _ := impl.Called(stopPlan, impl.NewHand(), stopOf(c.timer))
			want := impl.Done{Mem: clonedMem(m), Hand: impl.Hand{At: impl.AtTurn, Call: stopOf(c.timer), Timer: c.timer},
				Ev: impl.Ev{Kind: impl.EvCancel, Timer: c.timer, Gen: c.gen, When: c.when, At: 100}}
			want.Mem.Timers[c.timer].Status = impl.StModifying
			stopping.check(t, stopPlan, m, w, h, want)

			before := want
			want.Mem = clonedMem(want.Mem)
			want.Mem.Timers[c.timer].Status = impl.StDeleted
			want.Mem.Procs[c.place].Deleted = c.deleted
			want.Hand, want.Ev = impl.Hand{Timer: -1, Reply: impl.RpYes}, impl.Ev{}
			stopping.check(t, stopPlan, before.Mem, w, before.Hand, want)
			stopping.checkRefused(t, stopPlan, want.Mem, w, want.Hand) // and that was all

			before = want
			want.Hand = impl.Hand{Timer: -1, Reply: impl.RpNo} // who is stopped is not stopped once more
			stopping.check(t, stopPlan, before.Mem, w, h, want)
		}
	}
}

// stopCases are all ways in which a timer may stand in a heap, or outside: when it was to ring if it can be stopped, and otherwise whether the worker stays, or what the reply is.
var stopCases = []struct {
	status, when, next int64
	places             []int64
	told               int64 // the When of the EvCancel; -1 where there is none
	stays              bool
}{
	{impl.StNone, 45, 60, []int64{-1}, -1, false},
	{impl.StNone, 0, 0, []int64{-1}, -1, false},
	{impl.StWaiting, 45, 60, []int64{0, 1, 2}, 45, false},
	{impl.StWaiting, 60, 45, []int64{0, 1, 2}, 60, false},
	{impl.StWaiting, 0, timeLimit, []int64{0, 1, 2}, 0, false},
	{impl.StWaiting, timeLimit, 0, []int64{0, 1, 2}, timeLimit, false},
	{impl.StModifying, 45, 60, []int64{-1, 0, 1, 2}, -1, true},
	{impl.StModifying, 60, 45, []int64{-1, 0, 1, 2}, -1, true},
	{impl.StEarlier, 60, 45, []int64{0, 1, 2}, 45, false},
	{impl.StEarlier, 1, 0, []int64{0, 1, 2}, 0, false},
	{impl.StEarlier, timeLimit, timeLimit - 1, []int64{0, 1, 2}, timeLimit - 1, false},
	{impl.StLater, 45, 60, []int64{0, 1, 2}, 60, false},
	{impl.StLater, 45, 45, []int64{0, 1, 2}, 45, false},
	{impl.StLater, 0, timeLimit, []int64{0, 1, 2}, timeLimit, false},
	{impl.StLater, 0, 0, []int64{0, 1, 2}, 0, false},
	{impl.StDeleted, 45, 60, []int64{0, 1, 2}, -1, false},
	{impl.StDeleted, 60, 45, []int64{0, 1, 2}, -1, false},
	{impl.StRunning, 45, 60, []int64{0, 1, 2}, -1, true},
	{impl.StRunning, 60, 45, []int64{0, 1, 2}, -1, true},
	{impl.StRemoved, 45, 60, []int64{-1}, -1, false},
}

// Each status, with each Place, Clock and Gen: what the hand holds stays beside its Timer and At, but of a reply nothing does.
func TestLookToStopAtEachStatus(t *testing.T) {
	for _, c := range stopCases {
		for _, place := range c.places {
			for _, clock := range []int64{0, 45, 50, timeLimit - 1} {
				for _, gen := range []int64{0, 1, genLimit} {
					k := impl.Timer{Status: c.status, When: c.when, Next: c.next, Period: 7, Place: place, Gen: gen, Kind: impl.KdFunc, Mail: 39}
					m := memOf(memPlan, clock, waiting(40, 0), turned(impl.StDeleted, 10, 0, 2), k, turned(impl.StEarlier, 44, 43, 1))
					for timer := int64(-1); timer < 4; timer++ {
						h := impl.Hand{At: impl.AtLook, Call: stopOf(2), Timer: timer, When: 8, Had: true, Count: 2, Begin: 6, Reply: impl.RpFull, Out: 5}
						want := impl.Done{Mem: clonedMem(m), Hand: h}
						if c.told >= 0 {
							want.Mem.Timers[2].Status = impl.StModifying
							want.Hand.Timer, want.Hand.At = 2, impl.AtTurn
							want.Ev = impl.Ev{Kind: 2, Timer: 2, Gen: gen, When: c.told, At: clock}
						} else if !c.stays {
							want.Hand = impl.Hand{Timer: -1, Reply: 3}
						}
						for w := range memPlan.Workers {
							stopping.check(t, memPlan, m, w, h, want)
						}
					}
				}
			}
		}
	}
}

// Who is changed, or rings, is looked at again and again, by as many as there are, till he stands in another way.
func TestLookToStopStaysWhileSomebodyIsAtIt(t *testing.T) {
	for _, k := range []impl.Timer{turned(impl.StModifying, 45, 60, 1), outside(impl.StModifying, 45), turned(impl.StRunning, 45, 60, 1)} {
		for timer := int64(-1); timer < 2; timer++ {
			m := memOf(memPlan, 50, waiting(40, 0), k)
			h := impl.Hand{At: impl.AtLook, Call: stopOf(1), Timer: timer}
			for w := range memPlan.Workers {
				for lock := int64(-1); lock < memPlan.Workers; lock++ { // whoever holds the heap
					m.Procs[1].Lock = lock
					for range 3 {
						stopping.check(t, memPlan, m, w, h, impl.Done{Mem: m, Hand: h})
					}
				}
			}
			again := memOf(memPlan, 50, waiting(40, 0), waiting(70, 1))
			want := impl.Done{Mem: clonedMem(again), Hand: impl.Hand{At: impl.AtTurn, Call: h.Call, Timer: 1}, Ev: impl.Ev{Kind: 2, Timer: 1, Gen: 1, When: 70, At: 50}}
			want.Mem.Timers[1].Status = impl.StModifying
			stopping.check(t, memPlan, again, 2, h, want)
			gone := memOf(memPlan, 50, waiting(40, 0), outside(impl.StNone, 45))
			stopping.check(t, memPlan, gone, 2, h, impl.Done{Mem: gone, Hand: impl.Hand{Timer: -1, Reply: impl.RpNo}})
		}
	}
}

// A timer that the plan may have need not be there: the last one that is, and the one behind it, in each plan.
func TestLookToStopWhoIsThere(t *testing.T) {
	for most := int64(1); most <= timersLimit; most++ {
		p := impl.Plan{Procs: 2, Workers: 3, Timers: most}
		for count := range most + 1 {
			timers := []impl.Timer{}
			for i := range count {
				timers = append(timers, waiting(200+i, i%2))
			}
			m := memOf(p, 100, timers...)
			for id := range most {
				h := impl.Hand{At: impl.AtLook, Call: stopOf(id), Timer: count - 1, When: 3, Had: true, Count: 4, Begin: 5, Reply: 2, Out: 6}
				want := impl.Done{Mem: clonedMem(m), Hand: impl.Hand{Timer: -1, Reply: impl.RpNone}}
				if id < count {
					want.Hand = h
					want.Hand.At, want.Hand.Timer = impl.AtTurn, id
					want.Mem.Timers[id].Status = impl.StModifying
					want.Ev = impl.Ev{Kind: 2, Timer: id, Gen: 1, When: 200 + id, At: 100}
				}
				stopping.check(t, p, m, 1, h, want)
			}
		}
	}
}

// To look is of this chapter only where it was asked to stop; OpReset looks too, but not here.
func TestLookOfAnotherCode(t *testing.T) {
	m := stopMem()
	calls := otherCalls(stopPlan, impl.OpStop)
	for id := range stopPlan.Timers {
		calls = append(calls, impl.Call{Code: impl.OpReset, A: id, B: 9}, impl.Call{Code: impl.OpRecv, A: id})
	}
	for _, c := range calls {
		for timer := int64(-1); timer < 10; timer++ {
			for w := range stopPlan.Workers {
				h := impl.Hand{At: impl.AtLook, Call: c, Timer: timer}
				checkFit(t, stopPlan, m, w, h, true)
				stopping.checkRefused(t, stopPlan, m, w, h)
			}
		}
	}
}

// Who is turned is the Timer of the hand, whatever the Call; it is to be StModifying, and to have a Place.
func TestTurnAtEachStatus(t *testing.T) {
	for _, c := range stopCases {
		for _, place := range c.places {
			k := marked(turned(c.status, c.when, c.next, place))
			m := memOf(memPlan, 50, waiting(40, 0), k, waiting(10, 2), turned(impl.StDeleted, 30, 0, 1), turned(impl.StDeleted, 30, 0, 0), turned(impl.StDeleted, 9, 0, 1))
			for _, call := range append(rightCalls(memPlan), stopOf(0), stopOf(2), stopOf(7)) {
				for w := range memPlan.Workers {
					h := impl.Hand{At: impl.AtTurn, Call: call, Timer: 1, When: 8, Had: true, Count: 2, Begin: 6, Reply: impl.RpFull, Out: 5}
					if c.status != impl.StModifying || place == -1 {
						checkFit(t, memPlan, m, w, h, true)
						stopping.checkRefused(t, memPlan, m, w, h)
						continue
					}
					want := impl.Done{Mem: clonedMem(m), Hand: impl.Hand{Timer: -1, Reply: 2}}
					want.Mem.Timers[1].Status = impl.StDeleted
					want.Mem.Procs[place].Deleted = []int64{2, 3, 1}[place] // one more than the stopped ones beside it
					stopping.check(t, memPlan, m, w, h, want)
				}
			}
		}
	}
}

// Without a Timer nobody is turned, though the Call names one that could be.
func TestTurnOfNoTimer(t *testing.T) {
	for _, m := range []impl.Mem{stopMem(), memOf(stopPlan, 0), memOf(stopPlan, 3, turned(impl.StModifying, 30, 0, 0))} {
		for w := range stopPlan.Workers {
			for _, c := range append(rightCalls(stopPlan), stopOf(0), stopOf(3)) {
				h := impl.Hand{At: impl.AtTurn, Call: c, Timer: -1}
				checkFit(t, stopPlan, m, w, h, true)
				stopping.checkRefused(t, stopPlan, m, w, h)
			}
		}
	}
}

// Deleted is counted of the Place of the timer alone, from none up to as many as there may be, in each processor of each plan.
func TestTurnCountsInItsPlace(t *testing.T) {
	for procs := int64(1); procs <= procsLimit; procs++ {
		p := impl.Plan{Procs: procs, Workers: workersLimit, Timers: timersLimit}
		for place := range procs {
			timers := []impl.Timer{}
			for i := range int64(timersLimit) {
				timers = append(timers, turned(impl.StModifying, 90+i%7, 0, (place+max(0, i-20))%procs))
			}
			m := memOf(p, 50, timers...)
			want := make([]int64, procs)
			for i := range int64(timersLimit) {
				d, is := impl.StopStep(p, m, i%workersLimit, impl.Hand{At: impl.AtTurn, Call: stopOf(i), Timer: i})
				if !is || !expectedMemOk(p, d.Mem) || d.Mem.Timers[i].Status != impl.StDeleted {
					t.Fatalf("AtTurn of %d in %v is %+v, %v", i, m, d, is)
				}
				want[timers[i].Place]++
				for j, x := range d.Mem.Procs {
					if x.Deleted != want[j] || !slices.Equal(x.Heap, m.Procs[j].Heap) || x.Lock != -1 || x.Earliest != -1 {
						t.Fatalf("AtTurn of %d in %v is %v", i, m, d.Mem)
					}
				}
				m = d.Mem
			}
		}
	}
}

// Earliest stays as it was: it may be too early by then, but that is for who tidies the heap.
func TestStopLeavesEarliestAndLocks(t *testing.T) {
	for w := range stopPlan.Workers {
		for lock := int64(-1); lock < stopPlan.Workers; lock++ {
			for _, earliest := range []int64{0, 94, 95} {
				m := stopMem()
				m.Procs[0].Lock, m.Procs[1].Lock, m.Procs[0].Earliest = lock, w, earliest
				m.Procs[1].Earliest = timeLimit
				h := impl.Hand{At: impl.AtLook, Call: stopOf(1), Timer: -1}
				for h.At != impl.AtRest {
					d, is := impl.StopStep(stopPlan, m, w, h)
					if !is || d.Mem.Procs[0].Earliest != earliest || d.Mem.Procs[1].Earliest != timeLimit || d.Mem.Procs[0].Lock != lock || d.Mem.Procs[1].Lock != w || d.Mem.Clock != 100 {
						t.Fatalf("at %d of %v there is %+v, %v", h.At, m, d, is)
					}
					m, h = d.Mem, d.Hand
				}
			}
		}
	}
}

// At each At that is not of this chapter there is no step, with whatever Call, though all is fit.
func TestStopAtOtherAts(t *testing.T) {
	m := stopMem()
	for at := range int64(atLimit + 1) {
		if at == impl.AtLook || at == impl.AtTurn {
			continue
		}
		for _, c := range append(rightCalls(stopPlan), stopOf(0), stopOf(3), impl.Call{}) {
			for timer := int64(-1); timer < 10; timer++ {
				for w := range stopPlan.Workers {
					h := impl.Hand{At: at, Call: c, Timer: timer, When: 8}
					checkFit(t, stopPlan, m, w, h, at == impl.AtRest || c != impl.Call{})
					stopping.checkRefused(t, stopPlan, m, w, h)
				}
			}
		}
	}
}

// Each of the hands that the tests of what is not right begin with is fit, with each worker, and has its step.
func TestStopOfEachWorker(t *testing.T) {
	for _, h := range stopHands() {
		for w := range stopPlan.Workers {
			checkFit(t, stopPlan, stopMem(), w, h, true)
			if _, is := impl.StopStep(stopPlan, stopMem(), w, h); is != (h.At != impl.AtRest) {
				t.Errorf("StopStep of worker %d with %+v is %v", w, h, is)
			}
		}
	}
}

// The hand's Timer is -1 or there, though to look for another one it would not matter.
func TestStopTimerThatIsNotThere(t *testing.T) {
	for _, h := range stopHands() {
		for timer := int64(10); timer < stopPlan.Timers+2; timer++ {
			h.Timer = timer
			for w := range stopPlan.Workers {
				stopping.checkUnfit(t, stopPlan, stopMem(), w, h)
			}
		}
	}
}

func TestStopArgumentsNotRight(t *testing.T) {
	stopping.checkUnfitArguments(t, stopPlan, stopMem(), stopHands())
}

// All that is of this chapter, and a bit of all else, of each timer in a memory with one of each status.
func TestStopAsToldOfEachTimer(t *testing.T) {
	m := stopMem()
	for id := range stopPlan.Timers {
		for timer := int64(-1); timer <= int64(len(m.Timers)); timer++ {
			for w := int64(-1); w <= stopPlan.Workers; w++ {
				for at := range int64(atLimit + 2) {
					for _, c := range []impl.Call{stopOf(id), {Code: impl.OpReset, A: id, B: 5}, {Code: impl.OpRecv, A: id}, newCall} {
						stopping.checkAnswers(t, stopPlan, m, w, impl.Hand{At: at, Call: c, Timer: timer, When: 70, Begin: 9})
					}
				}
			}
		}
	}
}

// anyStopHand is mostly fit, and at a step of this chapter, of a timer that can be turned where there is one.
func anyStopHand(r *rand.Rand, p impl.Plan, m impl.Mem) impl.Hand {
	h := anyHand(r, p, 60)
	if r.Intn(5) > 0 {
		h.At = impl.AtLook + r.Int63n(2)
	}
	if r.Intn(4) > 0 {
		h.Call = stopOf(r.Int63n(p.Timers))
	}
	if r.Intn(5) > 0 {
		h.Timer = r.Int63n(int64(len(m.Timers))+1) - 1
	}
	if k := slices.IndexFunc(m.Timers, func(k impl.Timer) bool { return k.Status == impl.StModifying && k.Place >= 0 }); k >= 0 && r.Intn(3) == 0 {
		h.At, h.Timer = impl.AtTurn, int64(k)
	}
	return h
}

func TestStopAsToldOfMixtures(t *testing.T) {
	r := rand.New(rand.NewSource(10))
	made, replies, refused := map[int64]int{}, map[int64]int{}, 0
	for _, c := range tidyMems(t) {
		for range 60 {
			w, h := r.Int63n(c.p.Workers+2)-1, anyStopHand(r, c.p, c.m)
			stopping.checkAnswers(t, c.p, c.m, w, h)
			if d, is := expectedStop(c.p, c.m, w, h); is {
				made[h.At]++
				if d.Hand.At == impl.AtRest {
					replies[d.Hand.Reply]++
				}
			} else {
				refused++
			}
		}
		for range 6 {
			m := clonedMem(c.m)
			disturb(r, &m)
			stopping.checkAnswers(t, c.p, m, r.Int63n(c.p.Workers), anyStopHand(r, c.p, m))
		}
	}
	for _, count := range []int{made[impl.AtLook], made[impl.AtTurn], replies[impl.RpYes], replies[impl.RpNo], replies[impl.RpNone], refused} {
		if count < 500 {
			t.Errorf("only so few: %v, %v, %d", made, replies, refused)
		}
	}
}

// A worker that stops a timer, and what was told by him.
type stopper struct {
	worker int64
	hand   impl.Hand
	told   impl.Ev
}

func newStopper(t *testing.T, p impl.Plan, w int64, id int64) stopper {
	t.Helper()
	h, code := impl.Called(p, impl.NewHand(), stopOf(id))
	if code != impl.CdOk {
		t.Fatalf("Called of %d tells %d", id, code)
	}
	return stopper{worker: w, hand: h}
}

// step makes one step, and sees that it keeps the memory right, turns only the word of its timer, as that may pass, and tells it once.
func (s *stopper) step(t *testing.T, p impl.Plan, m impl.Mem) impl.Mem {
	t.Helper()
	id, at := s.hand.Call.A, s.hand.At
	d, is := impl.StopStep(p, m, s.worker, s.hand)
	if !is || !impl.MemOk(p, d.Mem) || !impl.HandOk(p, d.Hand) {
		t.Fatalf("StopStep(%v, %v, %d, %+v) is %+v, %v", p, m, s.worker, s.hand, d, is)
	}
	others := clonedMem(m)
	if id < int64(len(m.Timers)) && m.Timers[id] != d.Mem.Timers[id] {
		before, after := m.Timers[id], d.Mem.Timers[id]
		if !impl.Passes(before.Status, after.Status) || d.Hand == s.hand {
			t.Fatalf("at %d %v came to be %v", at, before, after)
		}
		others.Timers[id].Status = after.Status
		if after.Status == impl.StDeleted {
			others.Procs[before.Place].Deleted++
		}
	}
	if !sameMem(d.Mem, others) {
		t.Fatalf("at %d of timer %d %v came to be %v", at, id, m, d.Mem)
	}
	if (d.Ev != impl.Ev{}) != (at == impl.AtLook && d.Hand.At == impl.AtTurn) || d.Ev != (impl.Ev{}) && s.told != (impl.Ev{}) {
		t.Fatalf("at %d there is told %+v", at, d.Ev)
	}
	if d.Ev != (impl.Ev{}) {
		s.told = d.Ev
	}
	s.hand = d.Hand
	return d.Mem
}

// checkSilent sees that it does not wait, is not due at any time, rings in no heap, and is out of it when that is tidied.
func checkSilent(t *testing.T, p impl.Plan, m impl.Mem, id int64) {
	t.Helper()
	k := m.Timers[id]
	if _, is := effect(k); is || k.Status != impl.StDeleted {
		t.Fatalf("who is stopped is %v", k)
	}
	last := impl.Elapsed(p, m, timeLimit)
	if slices.Contains(impl.DueIn(p, m), id) || slices.Contains(impl.DueIn(p, last), id) {
		t.Fatalf("who is stopped is due: %d of %v", id, m)
	}
	after, rung := rungOut(t, p, last, k.Place)
	if slices.Contains(rung, id) {
		t.Fatalf("who is stopped rings: %d of %v", id, m)
	}
	if out := after.Timers[id]; out.Status != impl.StRemoved || out.Place != -1 || impl.FindSlot(after.Procs[k.Place].Heap, id) != -1 {
		t.Fatalf("who is stopped is left as %v", out)
	}
}

// Promise 10: who is stopped does not stand waiting: of each timer that can be stopped it is told what it was set to, and from then on it is not due, neither while it is turned nor later; all others are due as before.
func TestPromise10WhoIsStoppedDoesNotRing(t *testing.T) {
	stops := 0
	for _, c := range tidyMems(t) {
		for id, before := range c.m.Timers {
			when, is := effect(before)
			s := newStopper(t, c.p, int64(id)%c.p.Workers, int64(id))
			m := s.step(t, c.p, c.m)
			if !is {
				want := impl.Resting(impl.RpNo, 0)
				if before.Status == impl.StModifying || before.Status == impl.StRunning {
					want = impl.Hand{At: impl.AtLook, Call: stopOf(int64(id)), Timer: -1}
				}
				if s.hand != want || !sameMem(m, c.m) {
					t.Fatalf("%v is stopped by %+v", before, s.hand)
				}
				continue
			}
			stops++
			if s.told != (impl.Ev{Kind: impl.EvCancel, Timer: int64(id), Gen: before.Gen, When: when, At: c.m.Clock}) {
				t.Fatalf("%v is told as %+v", before, s.told)
			}
			rest := slices.DeleteFunc(impl.DueIn(c.p, c.m), func(k int64) bool { return k == int64(id) })
			if !slices.Equal(impl.DueIn(c.p, m), rest) {
				t.Fatalf("while %d is turned in %v, due are %v", id, c.m, impl.DueIn(c.p, m))
			}
			m = s.step(t, c.p, m)
			if s.hand != impl.Resting(impl.RpYes, 0) || !slices.Equal(impl.DueIn(c.p, m), rest) {
				t.Fatalf("behind stopping %d in %v, due are %v, and it is replied %+v", id, c.m, impl.DueIn(c.p, m), s.hand)
			}
			checkSilent(t, c.p, m, int64(id))
		}
	}
	if stops < 500 {
		t.Errorf("only %d were stopped", stops)
	}
}

// Promise 10: what is cancelled is what was armed: from being made to being taken out, by different workers.
func TestPromise10CancelsWhatWasArmed(t *testing.T) {
	p := impl.Plan{Procs: 3, Workers: 7, Timers: 4}
	for maker := range p.Workers {
		for w := range p.Workers {
			m := memOf(p, 20, waiting(25, 0))
			c := newCreator(t, p, m, maker, impl.Call{Code: impl.OpNew, B: 10, C: 5}, 0)
			early := newStopper(t, p, w, 1)
			if left := early.step(t, p, m); early.hand != impl.Resting(impl.RpNone, 0) || !sameMem(left, m) {
				t.Fatalf("ahead of its being there: %+v", early.hand)
			}
			s := newStopper(t, p, w, 1)
			armed := impl.Ev{}
			for c.hand.At != impl.AtRest {
				d := c.step(t, p, m)
				if m = d.Mem; d.Ev != (impl.Ev{}) {
					armed = d.Ev
				}
				if s.hand.At == impl.AtLook { // while it is made he stays
					m = s.step(t, p, m)
				}
				if (s.told != impl.Ev{}) != (armed != impl.Ev{}) {
					t.Fatalf("it was told %+v before %+v", s.told, armed)
				}
			}
			if s.told != (impl.Ev{Kind: impl.EvCancel, Timer: armed.Timer, Gen: armed.Gen, When: armed.When, At: armed.At}) {
				t.Fatalf("armed is %+v, cancelled %+v", armed, s.told)
			}
			m = s.step(t, p, impl.Elapsed(p, m, 50)) // its time has come meanwhile
			if s.hand != impl.Resting(impl.RpYes, 0) || m.Timers[1].Place != expectedHome(p, maker) {
				t.Fatalf("%+v, %v", s.hand, m)
			}
			checkSilent(t, p, m, 1)
		}
	}
}

// Promise 10: of many who stop the same ones by turns in any order one is told yes for each timer, once he has turned it; while he is at it the others stay, and behind it they are told no.
func TestPromise10ManyStopTheSame(t *testing.T) {
	r := rand.New(rand.NewSource(100))
	waits := 0
	for range 300 {
		p := impl.Plan{Procs: 1 + r.Int63n(procsLimit), Workers: 2 + r.Int63n(workersLimit-1), Timers: 4}
		m := memOf(p, 50, waiting(r.Int63n(90), r.Int63n(p.Procs)), turned(impl.StEarlier, 60+r.Int63n(9), 40+r.Int63n(20), r.Int63n(p.Procs)), turned(impl.StLater, 30, 30+r.Int63n(50), r.Int63n(p.Procs)))
		stoppers := []stopper{}
		for w := range p.Workers {
			stoppers = append(stoppers, newStopper(t, p, w, r.Int63n(p.Timers)))
		}
		turns, yes := map[int64]int64{}, map[int64]bool{} // who is turning a timer; whether it was turned
		for left := len(stoppers); left > 0; {
			s := &stoppers[r.Intn(len(stoppers))]
			if s.hand.At == impl.AtRest {
				continue
			}
			before := *s
			id := before.hand.Call.A
			m = s.step(t, p, m)
			who, busy := turns[id]
			switch {
			case id == 3:
				if s.hand != impl.Resting(impl.RpNone, 0) {
					t.Fatalf("there is no timer 3: %+v", s.hand)
				}
			case yes[id]:
				if s.hand != impl.Resting(impl.RpNo, 0) {
					t.Fatalf("behind its being stopped: %+v", s.hand)
				}
			case !busy:
				turns[id] = s.worker
				if s.hand.At != impl.AtTurn || s.hand.Timer != id {
					t.Fatalf("nobody is at it: %+v", s.hand)
				}
			case who == s.worker:
				yes[id] = true
				if s.hand != impl.Resting(impl.RpYes, 0) {
					t.Fatalf("he has turned it: %+v", s.hand)
				}
			default:
				if waits++; s.hand != before.hand {
					t.Fatalf("another one is at it: %+v came to be %+v", before.hand, s.hand)
				}
			}
			if s.hand.At == impl.AtRest {
				left--
			}
		}
		for id := range yes {
			checkSilent(t, p, m, id)
		}
	}
	if waits < 100 {
		t.Errorf("only %d times somebody waited", waits)
	}
}

// Promise 19: an answer is new memory, also where nothing was done.
func TestPromise19StoppingIsNewMemory(t *testing.T) {
	r := rand.New(rand.NewSource(119))
	for _, h := range append(stopHands(), impl.Hand{At: impl.AtTake, Call: newCall, Timer: -1}) {
		for w := range stopPlan.Workers {
			stopping.checkNewMemory(t, stopPlan, stopMem(), w, h)
		}
	}
	for _, c := range tidyMems(t) {
		for range 12 {
			stopping.checkNewMemory(t, c.p, c.m, r.Int63n(c.p.Workers), anyStopHand(r, c.p, c.m))
		}
	}
}

// Promise 19: it answers at every argument, and does not panic.
func TestPromise19StoppingAnswersEverywhere(t *testing.T) {
	stopping.checkEverywhere(t, stopPlan, stopMem(), stopHands())
}
