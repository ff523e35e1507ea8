package tests

import (
	"math"
	"math/rand"
	"slices"
	"testing"

	"loop.example/g00743/impl"
)

func TestEvConstants(t *testing.T) {
	for i, kind := range []int64{impl.EvArm, impl.EvCancel, impl.EvRing} {
		if kind != int64(i)+1 {
			t.Errorf("the Kind that stands at %d is %d", i+1, kind)
		}
	}
}

// expectedHome is counted round the processors, one for each worker.
func expectedHome(p impl.Plan, w int64) int64 {
	home := int64(0)
	for range w {
		if home++; home == p.Procs {
			home = 0
		}
	}
	return home
}

// The table of the chapter, line by line, by the numbers of the document.
func expectedCreate(p impl.Plan, m impl.Mem, w int64, h impl.Hand) (impl.Done, bool) {
	if !expectedFit(p, m, w, h) {
		return impl.Done{}, false
	}
	d := impl.Done{Mem: clonedMem(m), Hand: h}
	home := expectedHome(p, w)
	x := &d.Mem.Procs[home]
	switch h.At {
	case 1:
		if h.Call.Code != 1 {
			return impl.Done{}, false
		}
		if int64(len(m.Timers)) == p.Timers {
			d.Hand = impl.Hand{Timer: -1, Reply: 4}
			return d, true
		}
		d.Mem.Timers = append(d.Mem.Timers, impl.Timer{Status: 2, When: min(m.Clock+h.Call.B, timeLimit), Period: h.Call.C, Place: -1, Kind: h.Call.A})
		d.Hand.Timer, d.Hand.At = int64(len(m.Timers)), 2
	case 2:
		if x.Lock == -1 {
			x.Lock, d.Hand.At = w, 3
		}
	case 3:
		return expectedPush(p, d, home)
	case 4:
		if x.Lock == w {
			x.Lock = -1
		}
		switch {
		case h.Call.Code == 3:
			d.Hand = impl.Hand{Timer: -1, Reply: 3}
		case h.Timer == -1:
			d.Hand = impl.Hand{Timer: -1, Reply: 1}
		default:
			d.Hand = impl.Hand{Timer: -1, Reply: 1, Out: h.Timer}
		}
	default:
		return impl.Done{}, false
	}
	return d, true
}

func expectedPush(p impl.Plan, d impl.Done, home int64) (impl.Done, bool) {
	id := d.Hand.Timer
	if id == -1 || d.Mem.Timers[id].Status != 2 || d.Mem.Timers[id].Place != -1 {
		return impl.Done{}, false
	}
	k := &d.Mem.Timers[id]
	if k.Gen < genLimit {
		k.Gen++
	}
	if d.Hand.Call.Code == 3 {
		k.When = d.Hand.When
	}
	d.Ev = impl.Ev{Kind: 1, Timer: id, Gen: k.Gen, When: k.When, At: d.Mem.Clock}
	d.Mem, _ = expectedArmed(p, d.Mem, id, home)
	d.Hand.At = 4
	return d, true
}

var creating = stepper{"CreateStep", impl.CreateStep, expectedCreate}

var createPlan = impl.Plan{Procs: 2, Workers: 5, Timers: 6}

// busyMem has a waiting timer in each heap, one that is gone, and one that is about to be set anew.
func busyMem() impl.Mem {
	return memOf(createPlan, 100, waiting(150, 0), waiting(130, 1), outside(impl.StRemoved, 20), outside(impl.StModifying, 30))
}

var newCall = impl.Call{Code: impl.OpNew, A: impl.KdFunc, B: 40, C: 7}

var resetCall = impl.Call{Code: impl.OpReset, A: 3, B: 40}

// A whole OpNew, each step of it written out; the worker 3 has its home at the processor 1, as there is no processor 3.
func TestCreateWholeNew(t *testing.T) {
	m := busyMem()
	h, _ := impl.Called(createPlan, impl.NewHand(), newCall)
	want := impl.Done{Mem: clonedMem(m), Hand: impl.Hand{At: impl.AtLock, Call: newCall, Timer: 4}}
	want.Mem.Timers = append(want.Mem.Timers, impl.Timer{Status: impl.StModifying, When: 140, Period: 7, Place: -1, Kind: impl.KdFunc})
	creating.check(t, createPlan, m, 3, h, want)

	before := want
	want.Mem = clonedMem(want.Mem)
	want.Mem.Procs[1].Lock, want.Hand.At = 3, impl.AtPush
	creating.check(t, createPlan, before.Mem, 3, before.Hand, want)

	before = want
	want.Mem = clonedMem(want.Mem)
	want.Mem.Timers[4] = impl.Timer{Status: impl.StWaiting, When: 140, Period: 7, Place: 1, Gen: 1, Kind: impl.KdFunc}
	want.Mem.Procs[1].Heap = []impl.Slot{{Id: 1, Key: 130}, {Id: 4, Key: 140}}
	want.Hand.At, want.Ev = impl.AtUnlock, impl.Ev{Kind: impl.EvArm, Timer: 4, Gen: 1, When: 140, At: 100}
	creating.check(t, createPlan, before.Mem, 3, before.Hand, want)

	before = want
	want.Mem = clonedMem(want.Mem)
	want.Mem.Procs[1].Lock, want.Hand, want.Ev = -1, impl.Hand{Timer: -1, Reply: impl.RpOk, Out: 4}, impl.Ev{}
	creating.check(t, createPlan, before.Mem, 3, before.Hand, want)
	creating.checkRefused(t, createPlan, want.Mem, 3, want.Hand) // and that was all
}

// Who is set anew comes in at AtLock: its When is the one of the hand, and not what is asked (Clock and delay), nor what it was.
func TestCreateWholeReset(t *testing.T) {
	m := busyMem()
	m.Timers[3].Period, m.Timers[3].Kind, m.Timers[3].Gen, m.Timers[3].Mail, m.Timers[3].Next = 9, impl.KdFunc, 5, 81, 66
	h := impl.Hand{At: impl.AtLock, Call: resetCall, Timer: 3, When: 125, Begin: 17}
	want := impl.Done{Mem: clonedMem(m), Hand: h}
	want.Mem.Procs[1].Lock, want.Hand.At = 1, impl.AtPush
	creating.check(t, createPlan, m, 1, h, want)

	before := want
	want.Mem = clonedMem(want.Mem)
	want.Mem.Timers[3] = impl.Timer{Status: impl.StWaiting, When: 125, Next: 66, Period: 9, Place: 1, Gen: 6, Kind: impl.KdFunc, Mail: 81}
	want.Mem.Procs[1].Heap = []impl.Slot{{Id: 3, Key: 125}, {Id: 1, Key: 130}}
	want.Hand.At, want.Ev = impl.AtUnlock, impl.Ev{Kind: impl.EvArm, Timer: 3, Gen: 6, When: 125, At: 100}
	creating.check(t, createPlan, before.Mem, 1, before.Hand, want)

	before = want
	want.Mem = clonedMem(want.Mem)
	want.Mem.Procs[1].Lock, want.Hand, want.Ev = -1, impl.Hand{Timer: -1, Reply: impl.RpNo}, impl.Ev{}
	creating.check(t, createPlan, before.Mem, 1, before.Hand, want)
	creating.checkRefused(t, createPlan, want.Mem, 1, want.Hand)
}

// With another one at the lock there is a step each time, and nothing is done by it; when it is free it goes on.
func TestCreateWhileAnotherHoldsTheLock(t *testing.T) {
	for _, call := range []impl.Call{newCall, resetCall} {
		for w := range createPlan.Workers {
			home := w % 2
			for other := range createPlan.Workers {
				m := busyMem()
				m.Procs[home].Lock = other
				h := impl.Hand{At: impl.AtLock, Call: call, Timer: 3, When: 125}
				if call == newCall {
					h, _ = impl.Called(createPlan, impl.NewHand(), call)
					d, _ := impl.CreateStep(createPlan, m, w, h)
					if d.Mem.Procs[home].Lock != other || d.Hand.At != impl.AtLock {
						t.Fatalf("AtAlloc beside a lock is %+v", d)
					}
					m, h = d.Mem, d.Hand
				}
				for range 3 {
					creating.check(t, createPlan, m, w, h, impl.Done{Mem: m, Hand: h})
				}
				m = clonedMem(m)
				m.Procs[home].Lock, m.Procs[1-home].Lock = -1, other // the lock of the other processor is not in the way
				want := impl.Done{Mem: clonedMem(m), Hand: h}
				want.Mem.Procs[home].Lock, want.Hand.At = w, impl.AtPush
				creating.check(t, createPlan, m, w, h, want)
			}
		}
	}
}

// As many Timers as the plan has, and one less, in each plan and with each number of them outside of all heaps.
func TestAllocHowManyTimers(t *testing.T) {
	for most := int64(1); most <= timersLimit; most++ {
		p := impl.Plan{Procs: 2, Workers: 3, Timers: most}
		for count := range most + 1 {
			timers := []impl.Timer{}
			for i := range count {
				k := waiting(200+i, i%2)
				if i%3 == 2 {
					k = outside(impl.StNone, i)
				}
				timers = append(timers, k)
			}
			m := memOf(p, 100, timers...)
			m.Procs[0].Lock = 2
			for _, timer := range []int64{-1, 0, count - 1} { // a Timer of before does not matter
				if timer >= count {
					continue
				}
				h := impl.Hand{At: impl.AtAlloc, Call: newCall, Timer: timer, When: 3, Had: true, Count: 4, Begin: 5, Reply: 2, Out: 6}
				want := impl.Done{Mem: clonedMem(m), Hand: impl.Hand{Timer: -1, Reply: impl.RpFull}}
				if count < most {
					want.Hand = h
					want.Hand.At, want.Hand.Timer = impl.AtLock, count
					want.Mem.Timers = append(want.Mem.Timers, impl.Timer{Status: impl.StModifying, When: 140, Period: 7, Place: -1, Kind: impl.KdFunc})
				}
				creating.check(t, p, m, 1, h, want)
			}
		}
	}
}

// saidTimes are what is said by a delay at a Clock: the one after the other one, at most MaxTime.
var saidTimes = []struct{ clock, delay, want int64 }{
	{0, 0, 0}, {0, 1, 1}, {0, timeLimit - 1, timeLimit - 1}, {0, timeLimit, timeLimit}, {1, timeLimit - 2, timeLimit - 1}, {1, timeLimit - 1, timeLimit}, {1, timeLimit, timeLimit},
	{100, 0, 100}, {100, 50, 150}, {100, timeLimit - 101, timeLimit - 1}, {100, timeLimit - 100, timeLimit}, {100, timeLimit - 99, timeLimit}, {100, timeLimit, timeLimit},
	{timeLimit - 1, 0, timeLimit - 1}, {timeLimit - 1, 1, timeLimit}, {timeLimit - 1, 2, timeLimit}, {timeLimit - 1, timeLimit, timeLimit}, {timeLimit - 2, 1, timeLimit - 1},
}

// When is the Clock and the delay, at most MaxTime; Period and Kind are those that were asked, all else is zero.
func TestAllocTheTimer(t *testing.T) {
	for _, c := range saidTimes {
		for _, period := range []int64{0, 1, 7, timeLimit} {
			for _, kind := range []int64{0, 1} {
				m := memOf(createPlan, c.clock, waiting(5, 0))
				h := impl.Hand{At: impl.AtAlloc, Call: impl.Call{Code: impl.OpNew, A: kind, B: c.delay, C: period}, Timer: -1}
				want := impl.Done{Mem: clonedMem(m), Hand: h}
				want.Mem.Timers = append(want.Mem.Timers, impl.Timer{Status: 2, When: c.want, Period: period, Place: -1, Kind: kind})
				want.Hand.At, want.Hand.Timer = 2, 1
				creating.check(t, createPlan, m, 0, h, want)
			}
		}
	}
}

func TestAllocOfAnotherCode(t *testing.T) {
	full := memOf(createPlan, 5, make([]impl.Timer, createPlan.Timers)...)
	for i := range full.Timers {
		full.Timers[i].Place = -1
	}
	full.Procs[0].Heap = nil
	if !expectedMemOk(createPlan, full) {
		t.Fatal(full)
	}
	for _, c := range otherCalls(createPlan, impl.OpNew) {
		for _, m := range []impl.Mem{busyMem(), memOf(createPlan, 0), full} {
			for w := range createPlan.Workers {
				h := impl.Hand{At: impl.AtAlloc, Call: c, Timer: -1}
				checkFit(t, createPlan, m, w, h, true)
				creating.checkRefused(t, createPlan, m, w, h)
			}
		}
	}
}

// Each worker comes to the lock of its home, free or held by each one, by itself too; of whatever Code.
func TestLockByEachHolder(t *testing.T) {
	for procs := int64(1); procs <= procsLimit; procs++ {
		p := impl.Plan{Procs: procs, Workers: workersLimit, Timers: 4}
		for w := range int64(workersLimit) {
			home := w
			for home >= procs {
				home -= procs
			}
			for holder := int64(-1); holder < workersLimit; holder++ {
				m := memOf(p, 9, outside(impl.StModifying, 12), waiting(20, home))
				m.Procs[home].Lock, m.Procs[procs-1].Earliest = holder, 4
				for i, c := range rightCalls(p) {
					h := impl.Hand{At: impl.AtLock, Call: c, Timer: int64(i)%3 - 1, When: 8, Had: true, Count: 2, Begin: 6, Reply: 1, Out: 5}
					want := impl.Done{Mem: m, Hand: h}
					if holder == -1 {
						want.Mem = clonedMem(m)
						want.Mem.Procs[home].Lock, want.Hand.At = w, impl.AtPush
					}
					creating.check(t, p, m, w, h, want)
				}
			}
		}
	}
}

// The Ev tells the Gen that the timer has then, the When that it waits for, and the Clock.
func TestPushTellsWhatIsArmed(t *testing.T) {
	for _, c := range []struct{ gen, want int64 }{{0, 1}, {1, 2}, {7, 8}, {genLimit - 2, genLimit - 1}, {genLimit - 1, genLimit}, {genLimit, genLimit}} {
		for _, clock := range []int64{0, 60, timeLimit - 1} {
			for _, when := range []int64{0, 59, 60, 61, timeLimit} { // who is due already is armed as well
				for _, own := range []int64{0, 70, timeLimit} {
					for _, call := range rightCalls(createPlan) {
						k := impl.Timer{Status: impl.StModifying, When: own, Next: 3, Period: 4, Place: -1, Gen: c.gen, Kind: 1, Mail: 2}
						m := memOf(createPlan, clock, outside(impl.StModifying, 5), k)
						h := impl.Hand{At: impl.AtPush, Call: call, Timer: 1, When: when, Had: true, Count: 2, Begin: 6, Reply: 1, Out: 5}
						want := impl.Done{Mem: clonedMem(m), Hand: h, Ev: impl.Ev{Kind: 1, Timer: 1, Gen: c.want, When: own, At: clock}}
						if call.Code == 3 {
							want.Ev.When = when
						}
						k.Status, k.Place, k.Gen, k.When = impl.StWaiting, 0, c.want, want.Ev.When
						want.Mem.Timers[1], want.Hand.At = k, impl.AtUnlock
						want.Mem.Procs[0].Heap = []impl.Slot{{Id: 1, Key: k.When}}
						creating.check(t, createPlan, m, 2, h, want)
					}
				}
			}
		}
	}
}

// Who holds the lock, or whether anybody does, is not asked here.
func TestPushWhoeverHoldsTheLock(t *testing.T) {
	for w := range createPlan.Workers {
		for holder := int64(-1); holder < createPlan.Workers; holder++ {
			for other := int64(-1); other < createPlan.Workers; other++ {
				m := busyMem()
				m.Procs[w%2].Lock, m.Procs[1-w%2].Lock = holder, other
				h := impl.Hand{At: impl.AtPush, Call: newCall, Timer: 3, When: 8}
				want := impl.Done{Mem: clonedMem(m), Hand: h, Ev: impl.Ev{Kind: 1, Timer: 3, Gen: 2, When: 30, At: 100}}
				want.Mem.Timers[3] = impl.Timer{Status: impl.StWaiting, When: 30, Place: w % 2, Gen: 2}
				want.Mem.Procs[w%2].Heap = [][]impl.Slot{{{Id: 3, Key: 30}, {Id: 0, Key: 150}}, {{Id: 3, Key: 30}, {Id: 1, Key: 130}}}[w%2]
				want.Hand.At = impl.AtUnlock
				creating.check(t, createPlan, m, w, h, want)
			}
		}
	}
}

// Only who is StModifying and has no Place can be armed.
func TestPushAtEachStatus(t *testing.T) {
	for status := range int64(statusesCount) {
		for _, place := range []int64{-1, 0, 1, 2} {
			k := marked(turned(status, 45, 60, place))
			if status == impl.StEarlier {
				k.Next = 41
			}
			if !expectedTimerOk(memPlan, k) {
				continue
			}
			m := memOf(memPlan, 50, waiting(40, 0), k, waiting(10, 2))
			for w := range memPlan.Workers {
				for _, c := range rightCalls(memPlan) {
					h := impl.Hand{At: impl.AtPush, Call: c, Timer: 1, When: 45}
					checkFit(t, memPlan, m, w, h, true)
					d, is := impl.CreateStep(memPlan, m, w, h)
					if can := status == impl.StModifying && place == -1; is != can || can && (d.Mem.Timers[1].Status != impl.StWaiting || d.Mem.Timers[1].Place != w%3) {
						t.Errorf("AtPush of %v is %+v, %v", k, d, is)
					}
					if !is && !sameDone(d, impl.Done{}) {
						t.Errorf("AtPush of %v is refused by %+v", k, d)
					}
				}
			}
		}
	}
}

// Without a Timer nothing is armed, though there is one that could be.
func TestPushOfNoTimer(t *testing.T) {
	for _, m := range []impl.Mem{busyMem(), memOf(createPlan, 0), memOf(createPlan, 3, outside(impl.StModifying, 30))} {
		for w := range createPlan.Workers {
			for _, c := range rightCalls(createPlan) {
				h := impl.Hand{At: impl.AtPush, Call: c, Timer: -1, When: 9}
				checkFit(t, createPlan, m, w, h, true)
				creating.checkRefused(t, createPlan, m, w, h)
			}
		}
	}
}

// Where it comes to, by its When: to the top, between others, to the end, and behind those of its own Key; by the table, or by the hand.
func TestPushWhereItComesTo(t *testing.T) {
	for _, c := range []struct {
		when  int64
		order []int64
		want  []int64
	}{
		{5, nil, []int64{10}}, {0, nil, []int64{10}}, {timeLimit, nil, []int64{10}},
		{9, tenOrder[:1], []int64{10, 0}}, {10, tenOrder[:1], []int64{0, 10}}, {11, tenOrder[:1], []int64{0, 10}},
		{5, tenOrder, []int64{10, 1, 0, 3, 4, 5, 6, 7, 8, 9, 2}}, {9, tenOrder, []int64{10, 1, 0, 3, 4, 5, 6, 7, 8, 9, 2}},
		{10, tenOrder, []int64{0, 1, 10, 3, 4, 5, 6, 7, 8, 9, 2}}, {29, tenOrder, []int64{0, 1, 10, 3, 4, 5, 6, 7, 8, 9, 2}},
		{30, tenOrder, []int64{0, 1, 2, 3, 4, 5, 6, 7, 8, 9, 10}}, {31, tenOrder, []int64{0, 1, 2, 3, 4, 5, 6, 7, 8, 9, 10}},
		{timeLimit, tenOrder, []int64{0, 1, 2, 3, 4, 5, 6, 7, 8, 9, 10}},
	} {
		for _, code := range []int64{impl.OpNew, impl.OpReset} {
			timers := append(tenTimers(0, func(*impl.Timer) {}), outside(impl.StModifying, 500))
			for i := range timers[:10] {
				if !slices.Contains(c.order, int64(i)) {
					timers[i] = outside(impl.StNone, 3)
				}
			}
			h := impl.Hand{At: impl.AtPush, Call: impl.Call{Code: code}, Timer: 10, When: 400}
			if code == impl.OpNew {
				timers[10].When = c.when
			} else {
				h.When = c.when
			}
			m := laidMem(t, 50, timers, c.order...)
			timers[10] = turned(impl.StWaiting, c.when, 0, 0)
			want := impl.Done{Mem: laidMem(t, 50, timers, c.want...), Hand: h, Ev: impl.Ev{Kind: 1, Timer: 10, Gen: 2, When: c.when, At: 50}}
			want.Hand.At = impl.AtUnlock
			creating.check(t, tidyPlan, m, 1, h, want)
		}
	}
}

// The lock is given back by who holds it only; the reply is by the Code.
func TestUnlockByEachHolderAndCode(t *testing.T) {
	for w := range createPlan.Workers {
		for holder := int64(-1); holder < createPlan.Workers; holder++ {
			for _, other := range []int64{-1, w, holder} {
				m := busyMem()
				m.Procs[w%2].Lock, m.Procs[1-w%2].Lock = holder, other
				for _, c := range rightCalls(createPlan) {
					for timer := int64(-1); timer < 4; timer++ {
						h := impl.Hand{At: impl.AtUnlock, Call: c, Timer: timer, When: 8, Had: true, Count: 2, Begin: 6, Reply: 5, Out: 9}
						want := impl.Done{Mem: clonedMem(m), Hand: impl.Hand{Timer: -1, Reply: impl.RpOk, Out: []int64{0, 0, 1, 2, 3}[timer+1]}}
						if c.Code == impl.OpReset {
							want.Hand = impl.Hand{Timer: -1, Reply: impl.RpNo}
						}
						if holder == w {
							want.Mem.Procs[w%2].Lock = -1
						}
						creating.check(t, createPlan, m, w, h, want)
					}
				}
			}
		}
	}
}

func TestCreateAtOtherAts(t *testing.T) {
	m := busyMem()
	m.Procs[0].Lock = 2
	creating.checkOtherAts(t, createPlan, m, []int64{impl.AtAlloc, impl.AtLock, impl.AtPush, impl.AtUnlock})
}

// stepHands are fit in busyMem, each at a step that could be made; and one at rest.
func stepHands() []impl.Hand {
	return []impl.Hand{
		{At: impl.AtAlloc, Call: newCall, Timer: -1}, {At: impl.AtLock, Call: newCall, Timer: 3}, {At: impl.AtLock, Call: resetCall, Timer: 3}, {At: impl.AtPush, Call: newCall, Timer: 3},
		{At: impl.AtPush, Call: resetCall, Timer: 3, When: 9}, {At: impl.AtUnlock, Call: newCall, Timer: 3}, {At: impl.AtUnlock, Call: resetCall, Timer: -1}, {Timer: -1},
	}
}

func TestFitOrdinary(t *testing.T) {
	for _, h := range stepHands() {
		for w := int64(-2); w < createPlan.Workers+2; w++ {
			is := w >= 0 && w <= 4
			checkFit(t, createPlan, busyMem(), w, h, is)
			if !is {
				creating.checkRefused(t, createPlan, busyMem(), w, h)
			} else if _, made := impl.CreateStep(createPlan, busyMem(), w, h); made != (h.At != impl.AtRest) {
				t.Errorf("CreateStep of worker %d with %+v is %v", w, h, made)
			}
		}
		for _, w := range []int64{math.MinInt64, 5, 6, 7, 8, 1 << 32, 1<<32 + 1, math.MaxInt64} {
			checkFit(t, createPlan, busyMem(), w, h, false)
			creating.checkRefused(t, createPlan, busyMem(), w, h)
		}
	}
}

// A worker is one of this plan, also where there are more processors than workers, or more places in any plan.
func TestFitEachWorker(t *testing.T) {
	for procs := int64(1); procs <= procsLimit; procs++ {
		for workers := int64(1); workers <= workersLimit; workers++ {
			p := impl.Plan{Procs: procs, Workers: workers, Timers: 2}
			for w := int64(-2); w <= workersLimit+1; w++ {
				for _, h := range []impl.Hand{impl.NewHand(), {At: impl.AtAlloc, Call: newCall, Timer: -1}, {At: impl.AtLock, Call: newCall, Timer: -1}} {
					checkFit(t, p, impl.NewMem(p), w, h, w >= 0 && w < workers)
					creating.checkAnswers(t, p, impl.NewMem(p), w, h)
				}
			}
		}
	}
}

// The Timer is -1 or there: one that the plan may have is not enough.
func TestFitTimerThatIsThere(t *testing.T) {
	for most := int64(1); most <= timersLimit; most++ {
		p := impl.Plan{Procs: 2, Workers: 3, Timers: most}
		for count := range most + 1 {
			m := memOf(p, 5, slices.Repeat([]impl.Timer{outside(impl.StModifying, 9)}, int(count))...)
			for timer := int64(-2); timer <= most+1; timer++ {
				is := timer == -1 || timer >= 0 && timer < count
				for _, at := range []int64{impl.AtRest, impl.AtAlloc, impl.AtLock, impl.AtPush, impl.AtUnlock, impl.AtTake} {
					h := impl.Hand{At: at, Call: newCall, Timer: timer}
					checkFit(t, p, m, 2, h, is)
					if !is {
						creating.checkRefused(t, p, m, 2, h)
					}
				}
			}
		}
	}
}

func TestFitArgumentsNotRight(t *testing.T) {
	creating.checkUnfitArguments(t, createPlan, busyMem(), stepHands())
}

// createHands are of each At of the chapter, each Code and each Timer that is there; and a few at all others.
func createHands(p impl.Plan, m impl.Mem) []impl.Hand {
	list := []impl.Hand{}
	for _, c := range rightCalls(p) {
		for timer := int64(-1); timer <= int64(len(m.Timers)); timer++ {
			for at := impl.AtAlloc; at <= impl.AtUnlock; at++ {
				list = append(list, impl.Hand{At: int64(at), Call: c, Timer: timer, When: 70, Begin: 9})
			}
		}
		for at := range int64(atLimit + 2) {
			list = append(list, impl.Hand{At: at, Call: c, Timer: -1})
		}
	}
	return list
}

// All mixtures of who holds the locks, in a memory with a timer of each status.
func TestCreateAsToldOfEachLock(t *testing.T) {
	p := impl.Plan{Procs: 2, Workers: 3, Timers: 11}
	for lock0 := int64(-1); lock0 < 3; lock0++ {
		for lock1 := int64(-1); lock1 < 3; lock1++ {
			m := memOf(p, 50, waiting(40, 0), turned(impl.StModifying, 60, 0, 0), turned(impl.StEarlier, 90, 45, 0), turned(impl.StLater, 30, 70, 1), turned(impl.StDeleted, 20, 0, 0),
				outside(impl.StModifying, 35), outside(impl.StModifying, 70), outside(impl.StNone, 10), outside(impl.StRemoved, 11), turned(impl.StRunning, 48, 0, 1))
			m.Procs[0].Lock, m.Procs[1].Lock = lock0, lock1
			for w := int64(-1); w <= 3; w++ {
				for _, h := range createHands(p, m) {
					creating.checkAnswers(t, p, m, w, h)
				}
			}
		}
	}
}

// anyStepHand is mostly fit, and at a step of this chapter, of a timer that can be armed where there is one.
func anyStepHand(r *rand.Rand, p impl.Plan, m impl.Mem) impl.Hand {
	h := anyHand(r, p, 60)
	if r.Intn(5) > 0 {
		h.At = 1 + r.Int63n(4)
	}
	if r.Intn(3) == 0 {
		h.Call = []impl.Call{{Code: 1, A: r.Int63n(2), B: r.Int63n(timeLimit + 1), C: r.Int63n(50)}, {Code: 3, B: r.Int63n(50)}}[r.Intn(2)]
	}
	if r.Intn(5) > 0 {
		h.Timer = r.Int63n(int64(len(m.Timers))+1) - 1
	}
	if k := slices.IndexFunc(m.Timers, func(k impl.Timer) bool { return k.Status == impl.StModifying && k.Place == -1 }); k >= 0 && r.Intn(3) == 0 {
		h.At, h.Timer = impl.AtPush, int64(k)
	}
	return h
}

func TestCreateAsToldOfMixtures(t *testing.T) {
	made, _, refused := creating.checkMixtures(t, 9, anyStepHand)
	for at := int64(1); at <= 4; at++ {
		if made[at] < 500 {
			t.Errorf("at %d only %d steps were made", at, made[at])
		}
	}
	if refused < 500 {
		t.Errorf("only %d were refused", refused)
	}
}

// A worker at a step of this chapter, and what it was asked for.
type creator struct {
	worker int64
	hand   impl.Hand
	timer  int64 // who is armed by it, as soon as that is known
	when   int64
}

// newCreator begins an OpNew, or comes in from AtLock with a timer that is about to be set anew.
func newCreator(t *testing.T, p impl.Plan, m impl.Mem, w int64, c impl.Call, when int64) creator {
	t.Helper()
	if c.Code == impl.OpReset {
		return creator{worker: w, hand: impl.Hand{At: impl.AtLock, Call: c, Timer: c.A, When: when}, timer: c.A, when: when}
	}
	h, code := impl.Called(p, impl.NewHand(), c)
	if code != impl.CdOk {
		t.Fatalf("Called of %+v tells %d", c, code)
	}
	return creator{worker: w, hand: h, timer: -1, when: min(m.Clock+c.B, timeLimit)}
}

// step makes one step, and sees that it keeps the memory right, and touches only what is its own.
func (c *creator) step(t *testing.T, p impl.Plan, m impl.Mem) impl.Done {
	t.Helper()
	d, is := impl.CreateStep(p, m, c.worker, c.hand)
	if !is || !impl.MemOk(p, d.Mem) || !impl.HandOk(p, d.Hand) {
		t.Fatalf("CreateStep(%v, %v, %d, %+v) is %+v, %v", p, m, c.worker, c.hand, d, is)
	}
	if c.hand.At == impl.AtAlloc && d.Hand.At == impl.AtLock {
		c.timer = d.Hand.Timer
		if c.timer != int64(len(m.Timers)) || len(d.Mem.Timers) != len(m.Timers)+1 {
			t.Fatalf("the new timer %d of %v", c.timer, d.Mem)
		}
	} else if len(d.Mem.Timers) != len(m.Timers) {
		t.Fatalf("%v came to have other timers than %v", d.Mem, m)
	}
	for i, before := range m.Timers {
		after := d.Mem.Timers[i]
		if before != after && (int64(i) != c.timer || c.hand.At != impl.AtPush || !impl.Passes(before.Status, after.Status)) {
			t.Fatalf("at %d of timer %d %v came to be %v", c.hand.At, c.timer, before, after)
		}
	}
	for i, before := range m.Procs {
		after := d.Mem.Procs[i]
		if !sameProc(before, after) && int64(i) != impl.HomeOf(p, c.worker) || after.Earliest != before.Earliest || after.Deleted != before.Deleted || c.hand.At != impl.AtPush && !slices.Equal(before.Heap, after.Heap) {
			t.Fatalf("at %d of worker %d %v came to be %v", c.hand.At, c.worker, before, after)
		}
	}
	if (d.Ev != impl.Ev{}) != (c.hand.At == impl.AtPush) {
		t.Fatalf("at %d there is told %+v", c.hand.At, d.Ev)
	}
	c.hand = d.Hand
	return d
}

// checkArmed sees that the timer waits in the heap of its worker's processor, and there only.
func (c creator) checkArmed(t *testing.T, p impl.Plan, m impl.Mem) {
	t.Helper()
	k := m.Timers[c.timer]
	if k.Status != impl.StWaiting || k.When != c.when || k.Place != impl.HomeOf(p, c.worker) {
		t.Fatalf("timer %d of worker %d at %d is %v", c.timer, c.worker, c.when, k)
	}
	for i, x := range m.Procs {
		want := 0
		if int64(i) == expectedHome(p, c.worker) {
			want = 1
		}
		count := 0
		for _, s := range x.Heap {
			if s.Id == c.timer {
				count++
				if s.Key != c.when {
					t.Fatalf("timer %d of worker %d at %d has %v", c.timer, c.worker, c.when, s)
				}
			}
		}
		if count != want {
			t.Fatalf("timer %d of worker %d has %d slots in the heap %d: %v", c.timer, c.worker, count, i, m)
		}
	}
}

// Promise 9: who is new, or comes in anew, waits in the heap of its worker's processor, and nowhere else, for each worker of each plan; it is told once, and all else stays.
func TestPromise9ComesIntoTheHeapOfItsWorker(t *testing.T) {
	for procs := int64(1); procs <= procsLimit; procs++ {
		for workers := int64(1); workers <= workersLimit; workers++ {
			p := impl.Plan{Procs: procs, Workers: workers, Timers: 20}
			timers := []impl.Timer{outside(impl.StModifying, 3)}
			for place := range procs {
				timers = append(timers, waiting(90+place, place), turned(impl.StDeleted, 80, 0, place), turned(impl.StEarlier, 110, 70, place))
			}
			for w := range workers {
				for _, call := range []impl.Call{{Code: impl.OpNew}, {Code: impl.OpNew, A: 1, B: 35, C: 4}, {Code: impl.OpNew, B: timeLimit}, {Code: impl.OpReset, B: 500}} {
					m := memOf(p, 60, timers...)
					c := newCreator(t, p, m, w, call, 85)
					evs := []impl.Ev{}
					for range 5 {
						if c.hand.At == impl.AtRest {
							break
						}
						d := c.step(t, p, m)
						if m = d.Mem; d.Ev != (impl.Ev{}) {
							evs = append(evs, d.Ev)
						}
					}
					c.checkArmed(t, p, m)
					want := impl.Ev{Kind: impl.EvArm, Timer: c.timer, Gen: m.Timers[c.timer].Gen, When: c.when, At: 60}
					reply := impl.Resting(impl.RpOk, c.timer)
					if call.Code == impl.OpReset {
						reply = impl.Resting(impl.RpNo, 0)
					}
					if !slices.Equal(evs, []impl.Ev{want}) || c.hand != reply || m.Procs[expectedHome(p, w)].Lock != -1 {
						t.Fatalf("%+v of worker %d: %v, %+v, %v", call, w, evs, c.hand, m)
					}
				}
			}
		}
	}
}

// Promise 9: likewise when all workers create at once, by turns in any order: nobody comes between who holds a lock and his heap.
func TestPromise9AllWorkersAtOnce(t *testing.T) {
	r := rand.New(rand.NewSource(99))
	waits := 0
	for range 300 {
		p := impl.Plan{Procs: 1 + r.Int63n(procsLimit), Workers: 1 + r.Int63n(workersLimit), Timers: timersLimit}
		timers := []impl.Timer{}
		for range p.Workers {
			timers = append(timers, outside(impl.StModifying, r.Int63n(50)))
		}
		m := memOf(p, 20, timers...)
		creators := []creator{}
		for w := range p.Workers {
			call := []impl.Call{{Code: impl.OpNew, A: w % 2, B: r.Int63n(30), C: r.Int63n(5)}, {Code: impl.OpReset, A: w, B: 3}}[r.Intn(2)]
			creators = append(creators, newCreator(t, p, m, w, call, r.Int63n(50)))
		}
		armed := []creator{}
		for left := len(creators); left > 0; {
			c := &creators[r.Intn(len(creators))]
			if c.hand.At == impl.AtRest {
				continue
			}
			before := *c
			d := c.step(t, p, m)
			if c.hand == before.hand {
				waits++
				if holder := m.Procs[impl.HomeOf(p, c.worker)].Lock; holder < 0 || creators[holder].hand.At != impl.AtPush && creators[holder].hand.At != impl.AtUnlock || !sameMem(d.Mem, m) {
					t.Fatalf("worker %d waits in %v", c.worker, m)
				}
			}
			if before.hand.At == impl.AtPush && m.Procs[impl.HomeOf(p, c.worker)].Lock != c.worker {
				t.Fatalf("worker %d comes into a heap that he does not hold: %v", c.worker, m)
			}
			if m = d.Mem; before.hand.At == impl.AtPush {
				armed = append(armed, *c)
			}
			for _, one := range armed {
				one.checkArmed(t, p, m)
			}
			if c.hand.At == impl.AtRest {
				left--
			}
		}
		for _, x := range m.Procs {
			if x.Lock != -1 {
				t.Fatalf("a lock is left: %v", m)
			}
		}
		if len(armed) != len(creators) {
			t.Fatalf("%d were armed of %d", len(armed), len(creators))
		}
	}
	if waits < 100 {
		t.Errorf("only %d times somebody waited", waits)
	}
}

// Promise 9: until he is told to be armed who is new is in no heap, and not due; from then on he is due at his When, and not before.
func TestPromise9DueWhenItWasAsked(t *testing.T) {
	p := impl.Plan{Procs: 3, Workers: 7, Timers: 3}
	for w := range p.Workers {
		for _, delay := range []int64{0, 1, 30, timeLimit - 21, timeLimit - 20, timeLimit} {
			m := memOf(p, 20)
			c := newCreator(t, p, m, w, impl.Call{Code: impl.OpNew, B: delay}, 0)
			for c.hand.At != impl.AtRest {
				at := c.hand.At
				m = c.step(t, p, m).Mem
				last := impl.Elapsed(p, m, timeLimit)
				if due := len(impl.DueIn(p, last)) > 0; due != (at >= impl.AtPush && c.when < timeLimit) || (impl.WakeAll(p, m) == c.when) != (at >= impl.AtPush) {
					t.Fatalf("behind %d of %+v %v is due: %v", at, c, last, due)
				}
			}
			for _, clock := range []int64{c.when - 1, c.when, c.when + 1} {
				if clock < 20 || clock >= timeLimit {
					continue
				}
				if _, k := impl.RungAt(p, impl.Elapsed(p, m, clock-20), expectedHome(p, w)); (k == 0) != (clock >= c.when) {
					t.Fatalf("of %v %d rings at %d", m, k, clock)
				}
			}
		}
	}
}

// Promise 19: an answer is new memory, also where nothing was to be done.
func TestPromise19CreatingIsNewMemory(t *testing.T) {
	for _, h := range append(stepHands(), impl.Hand{At: impl.AtTake, Call: newCall, Timer: -1}) {
		for w := range createPlan.Workers {
			for lock := int64(-1); lock < createPlan.Workers; lock++ {
				m := busyMem()
				m.Procs[w%2].Lock = lock
				creating.checkNewMemory(t, createPlan, m, w, h)
			}
		}
	}
	creating.checkNewMemories(t, 19, anyStepHand)
}

// Promise 19: both functions answer at every argument and none panics.
func TestPromise19CreatingAnswersEverywhere(t *testing.T) {
	creating.checkEverywhere(t, createPlan, busyMem(), stepHands())
}
