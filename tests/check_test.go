package tests

import (
	"math/rand"
	"slices"
	"testing"

	"loop.example/g00743/impl"
)

// The table of the chapter, line by line, by the numbers of the document.
func expectedCheck(p impl.Plan, m impl.Mem, w int64, h impl.Hand) (impl.Done, bool) {
	if !expectedFit(p, m, w, h) || h.Call.Code != 4 {
		return impl.Done{}, false
	}
	d := impl.Done{Mem: clonedMem(m), Hand: h}
	x := &d.Mem.Procs[h.Call.A]
	switch h.At {
	case 8:
		if x.Lock == -1 {
			x.Lock, d.Hand.At = w, 9
		}
	case 9, 10, 11:
		if x.Lock != w {
			return impl.Done{}, false
		}
		return expectedUnderLock(p, d)
	case 12:
		if h.Timer == -1 {
			return impl.Done{}, false
		}
		if k := &d.Mem.Timers[h.Timer]; k.Kind == 0 && k.Mail == 0 {
			k.Mail = m.Clock + 1
		}
		if h.Count < countLimit {
			d.Hand.Count++
		}
		d.Hand.At = 10
	case 13:
		if x.Lock == w {
			x.Lock = -1
		}
		d.Hand = impl.Hand{Timer: -1, Reply: 1, Out: h.Count}
	default:
		return impl.Done{}, false
	}
	return d, true
}

func expectedUnderLock(p impl.Plan, d impl.Done) (impl.Done, bool) {
	place, id, is := d.Hand.Call.A, d.Hand.Timer, false
	switch d.Hand.At {
	case 9:
		if d.Mem, is = expectedTidied(p, d.Mem, place); !is {
			d.Hand.At = 10
		}
	case 10:
		if d.Mem, id = expectedRung(p, d.Mem, place); id == -1 {
			d.Hand.At = expectedPastTop(d.Mem, place)
			return d, true
		}
		d.Ev = impl.Ev{Kind: 3, Timer: id, Gen: d.Mem.Timers[id].Gen, When: d.Mem.Timers[id].When, At: d.Mem.Clock}
		d.Hand.Timer, d.Hand.At = id, 11
	case 11:
		if id == -1 || d.Mem.Timers[id].Place != place || d.Mem.Timers[id].Status != 6 {
			return impl.Done{}, false
		}
		d.Mem, _ = expectedRearmed(p, d.Mem, id)
		d.Hand.At = 12
	}
	return d, true
}

func expectedPastTop(m impl.Mem, place int64) int64 {
	heap := m.Procs[place].Heap
	if len(heap) == 0 {
		return 13
	}
	k := m.Timers[heap[0].Id]
	if k.Status == 3 || k.Status == 4 || k.Status == 5 {
		return 9
	}
	if k.Status == 2 && k.When <= m.Clock {
		return 10
	}
	return 13
}

var checking = stepper{"CheckStep", impl.CheckStep, expectedCheck}

var checkAts = []int64{impl.AtGrab, impl.AtTidy, impl.AtRing, impl.AtAgain, impl.AtTell, impl.AtFree}

func checkOf(place int64) impl.Call { return impl.Call{Code: impl.OpCheck, A: place} }

// heldMem is variedMem, but this worker holds both heaps. At the top of the one stands who is stopped, of the other one who is due; there the timer 6 rings.
func heldMem(w int64) impl.Mem {
	m := variedMem()
	m.Procs[0].Lock, m.Procs[1].Lock = w, w
	return m
}

// checkHands are fit in heldMem, each at a step that can be made by who holds it, of each outcome; and one at rest.
func checkHands() []impl.Hand {
	list := []impl.Hand{impl.NewHand(), {At: impl.AtAgain, Call: checkOf(1), Timer: 6, Count: 3}}
	for place := range variedPlan.Procs {
		for _, at := range []int64{impl.AtGrab, impl.AtTidy, impl.AtRing, impl.AtFree} {
			list = append(list, impl.Hand{At: at, Call: checkOf(place), Timer: -1, Count: 7})
		}
		for _, timer := range []int64{0, 2, 3, 6} {
			list = append(list, impl.Hand{At: impl.AtTell, Call: checkOf(place), Timer: timer, Count: countLimit - place})
		}
	}
	return list
}

// A wholeCheck is an OpCheck of the processor 1 at 50, written out: where the worker is behind each step, what is told, how the timers stand in the end, and in which order those of that heap do.
type wholeCheck struct {
	name   string
	timers []impl.Timer
	ats    []int64
	told   []impl.Ev
	after  []impl.Timer
	order  []int64
}

func (c wholeCheck) check(t *testing.T, w int64) {
	t.Helper()
	m := memOf(memPlan, 50, c.timers...)
	m.Procs[0].Lock, m.Procs[2].Lock = w, (w+1)%memPlan.Workers
	want := clonedMem(m)
	want.Timers, want.Procs[1] = c.after, idle(nil)
	for _, id := range c.order {
		want.Procs[1].Heap = append(want.Procs[1].Heap, impl.Slot{Id: id, Key: c.after[id].When})
	}
	h, _ := impl.Called(memPlan, impl.NewHand(), checkOf(1))
	told := []impl.Ev{}
	for i, at := range c.ats {
		checking.checkAnswers(t, memPlan, m, w, h)
		d, is := impl.CheckStep(memPlan, m, w, h)
		if !is || d.Hand.At != at || (d.Mem.Procs[1].Lock == w) != (at != impl.AtRest) {
			t.Fatalf("%s: the step %d of worker %d is %+v, %v, not at %d", c.name, i, w, d, is, at)
		}
		if m, h = d.Mem, d.Hand; d.Ev != (impl.Ev{}) {
			told = append(told, d.Ev)
		}
	}
	if !sameMem(m, want) || h != impl.Resting(impl.RpOk, int64(len(c.told))) || !slices.Equal(told, c.told) {
		t.Fatalf("%s: in the end of worker %d there is %v, not %v; %+v, and told %+v", c.name, w, m, want, h, told)
	}
	checking.checkRefused(t, memPlan, m, w, h) // and that was all
}

// Of one that rings once, of one that rings again, of one that is stopped, of one that is earlier, and of two that are later, of which one is due; who is due in another heap, or stopped there, is left as he is.
func TestCheckWholeOfManyDue(t *testing.T) {
	timers := []impl.Timer{waiting(20, 1), waiting(30, 1), turned(impl.StDeleted, 10, 0, 1), turned(impl.StEarlier, 90, 40, 1), turned(impl.StLater, 15, 45, 1), turned(impl.StLater, 25, 70, 1), waiting(51, 1),
		waiting(5, 0), turned(impl.StDeleted, 3, 0, 2), outside(impl.StNone, 7)}
	timers[1].Period, timers[3].Kind, timers[4].Period, timers[4].Mail = 15, impl.KdFunc, 100, 7
	after := slices.Clone(timers)
	after[0] = impl.Timer{Status: impl.StNone, When: 20, Place: -1, Gen: 1, Mail: 51}
	after[1] = impl.Timer{Status: impl.StWaiting, When: 60, Period: 15, Place: 1, Gen: 1, Mail: 51}
	after[2] = impl.Timer{Status: impl.StRemoved, When: 10, Place: -1, Gen: 2}
	after[3] = impl.Timer{Status: impl.StNone, When: 40, Next: 40, Place: -1, Gen: 2, Kind: impl.KdFunc}
	after[4] = impl.Timer{Status: impl.StWaiting, When: 145, Next: 45, Period: 100, Place: 1, Gen: 2, Mail: 7}
	after[5] = impl.Timer{Status: impl.StWaiting, When: 70, Next: 70, Place: 1, Gen: 2}
	whole := wholeCheck{"many due", timers,
		slices.Concat(slices.Repeat([]int64{impl.AtTidy}, 1+4), []int64{impl.AtRing}, slices.Repeat([]int64{impl.AtAgain, impl.AtTell, impl.AtRing}, 4), []int64{impl.AtFree, impl.AtRest}),
		[]impl.Ev{{Kind: 3, Timer: 0, Gen: 1, When: 20, At: 50}, {Kind: 3, Timer: 1, Gen: 1, When: 30, At: 50}, {Kind: 3, Timer: 3, Gen: 2, When: 40, At: 50}, {Kind: 3, Timer: 4, Gen: 2, When: 45, At: 50}},
		after, []int64{6, 5, 1, 4}}
	for w := range memPlan.Workers {
		whole.check(t, w)
	}
}

func TestCheckWholeOfNothingDue(t *testing.T) {
	elsewhere := []impl.Timer{waiting(5, 0), turned(impl.StDeleted, 3, 0, 2), turned(impl.StEarlier, 60, 9, 2), outside(impl.StModifying, 7)}
	with := func(timers ...impl.Timer) []impl.Timer { return slices.Concat(timers, elsewhere) }
	none := []int64{impl.AtTidy, impl.AtRing, impl.AtFree, impl.AtRest}
	one := append([]int64{impl.AtTidy}, none...)
	for _, c := range []wholeCheck{
		{"no timer at all", nil, none, nil, nil, nil},
		{"an empty heap", elsewhere, none, nil, elsewhere, nil},
		{"none due", with(waiting(60, 1), waiting(51, 1)), none, nil, with(waiting(60, 1), waiting(51, 1)), []int64{1, 0}},
		{"who is being changed ahead of its time", with(turned(impl.StModifying, 51, 3, 1)), none, nil, with(turned(impl.StModifying, 51, 3, 1)), []int64{0}},
		{"one stopped", with(turned(impl.StDeleted, 10, 0, 1)), one, nil, with(turned(impl.StRemoved, 10, 0, -1)), nil},
		{"one earlier", with(turned(impl.StEarlier, 60, 51, 1)), one, nil, with(turned(impl.StWaiting, 51, 51, 1)), []int64{0}},
		{"one later", with(turned(impl.StLater, 10, 51, 1)), one, nil, with(turned(impl.StWaiting, 51, 51, 1)), []int64{0}},
		{"one that rings elsewhere in this heap", with(turned(impl.StRunning, 50, 0, 1), waiting(50, 1)), none, nil, with(turned(impl.StRunning, 50, 0, 1), waiting(50, 1)), []int64{0, 1}},
	} {
		for w := range memPlan.Workers {
			c.check(t, w)
		}
	}
}

// kept is a hand with a number in each field, to see that what is not named stays.
func kept(at int64, c impl.Call, timer int64) impl.Hand {
	return impl.Hand{At: at, Call: c, Timer: timer, When: 8, Had: true, Count: 4, Begin: 6, Reply: impl.RpFull, Out: 5}
}

// Each worker comes to the lock of each processor, his home or not: it is his where it was free; else he stays, though it be his already. The locks of the others are neither taken nor in the way.
func TestGrabEachLock(t *testing.T) {
	for procs := int64(1); procs <= procsLimit; procs++ {
		for _, workers := range []int64{1, 3, workersLimit} {
			p := impl.Plan{Procs: procs, Workers: workers, Timers: 6}
			for place := range procs {
				for w := range workers {
					for lock := int64(-1); lock < workers; lock++ {
						for _, others := range []int64{-1, w, workers - 1} {
							m := memOf(p, 50, waiting(5, place), turned(impl.StDeleted, 3, 0, place), turned(impl.StEarlier, 9, 7, procs-1))
							for i := range m.Procs {
								m.Procs[i].Lock = others
							}
							m.Procs[place].Lock = lock
							h := kept(impl.AtGrab, checkOf(place), w%4-1)
							want := impl.Done{Mem: clonedMem(m), Hand: h}
							if lock == -1 {
								want.Mem.Procs[place].Lock, want.Hand.At = w, impl.AtTidy
							}
							checking.check(t, p, m, w, h, want)
						}
					}
				}
			}
		}
	}
}

// As long as he finds something he tidies it, one at a time, and comes again; then Earliest is -1, and he goes on. Other heaps stay untidy.
func TestTidyStep(t *testing.T) {
	for _, c := range []struct {
		was   impl.Timer
		after impl.Timer
		heap  []impl.Slot
		is    bool
	}{
		{turned(impl.StDeleted, 60, 9, 0), turned(impl.StRemoved, 60, 9, -1), []impl.Slot{{Id: 0, Key: 40}}, true},
		{turned(impl.StEarlier, 60, 45, 0), turned(impl.StWaiting, 45, 45, 0), []impl.Slot{{Id: 0, Key: 40}, {Id: 1, Key: 45}}, true},
		{turned(impl.StEarlier, 60, 30, 0), turned(impl.StWaiting, 30, 30, 0), []impl.Slot{{Id: 1, Key: 30}, {Id: 0, Key: 40}}, true},
		{turned(impl.StLater, 60, 70, 0), turned(impl.StWaiting, 70, 70, 0), []impl.Slot{{Id: 0, Key: 40}, {Id: 1, Key: 70}}, true},
		{turned(impl.StWaiting, 60, 45, 0), turned(impl.StWaiting, 60, 45, 0), []impl.Slot{{Id: 0, Key: 40}, {Id: 1, Key: 60}}, false},
		{turned(impl.StModifying, 60, 45, 0), turned(impl.StModifying, 60, 45, 0), []impl.Slot{{Id: 0, Key: 40}, {Id: 1, Key: 60}}, false},
		{turned(impl.StRunning, 60, 45, 0), turned(impl.StRunning, 60, 45, 0), []impl.Slot{{Id: 0, Key: 40}, {Id: 1, Key: 60}}, false},
	} {
		for place := range memPlan.Procs {
			for _, earliest := range []int64{-1, 0, 29} {
				if c.was.Status == impl.StEarlier && earliest == -1 {
					continue
				}
				for w := range memPlan.Workers {
					k, other := c.was, (place+1)%3
					k.Place = place
					m := memOf(memPlan, 50, waiting(40, place), k, turned(impl.StDeleted, 3, 0, other), turned(impl.StEarlier, 9, 7, other))
					m.Procs[place].Lock, m.Procs[place].Earliest = w, earliest
					h := kept(impl.AtTidy, checkOf(place), w-1)
					want := impl.Done{Mem: clonedMem(m), Hand: h}
					if k = c.after; k.Place == 0 {
						k.Place = place
					}
					want.Mem.Timers[1] = k
					x := &want.Mem.Procs[place]
					x.Heap, x.Deleted = c.heap, 0
					if !c.is {
						x.Earliest, want.Hand.At = -1, impl.AtRing
					}
					checking.check(t, memPlan, m, w, h, want)
				}
			}
		}
	}
}

// Whatever stands at the top, one ahead of its time, in time, and one behind it: only who waits and is due rings; who is being changed is waited for as long as its When has come; who is to be tidied is tidied.
func TestRingAtEachStatusAtTheTop(t *testing.T) {
	for _, clock := range []int64{0, 1, 50, timeLimit - 1} {
		for status := range int64(statusesCount) {
			for _, when := range []int64{0, clock - 1, clock, clock + 1, timeLimit} {
				for _, next := range []int64{0, clock - 1, clock, clock + 1, timeLimit} {
					for place := range memPlan.Procs {
						k := marked(turned(status, when, next, place))
						if !expectedTimerOk(memPlan, k) {
							continue
						}
						// Others wait below it, one is to be tidied, and elsewhere one is due.
						m := memOf(memPlan, clock, k, waiting(max(when, clock), place), turned(impl.StDeleted, timeLimit, 0, place), waiting(0, (place+1)%3))
						m.Procs[place].Lock = 2
						h := kept(impl.AtRing, checkOf(place), 1)
						want := impl.Done{Mem: clonedMem(m), Hand: h}
						switch {
						case status == impl.StWaiting && when <= clock:
							want.Mem.Timers[0].Status = impl.StRunning
							want.Hand.Timer, want.Hand.At = 0, impl.AtAgain
							want.Ev = impl.Ev{Kind: 3, Timer: 0, Gen: 17, When: when, At: clock}
						case untidy(k):
							want.Hand.At = impl.AtTidy
						case status != impl.StModifying || when > clock:
							want.Hand.At = impl.AtFree
						}
						checking.check(t, memPlan, m, 2, h, want)
					}
				}
			}
		}
	}
}

// Without a slot nothing is due, whatever is told to be earlier, and however it stands elsewhere, or outside.
func TestRingOfEmptyHeap(t *testing.T) {
	for place := range memPlan.Procs {
		for _, earliest := range []int64{-1, 0, 50, timeLimit} {
			for timer := int64(-1); timer < 4; timer++ {
				m := memOf(memPlan, 50, waiting(4, (place+1)%3), outside(impl.StModifying, 5), turned(impl.StModifying, 3, 0, (place+2)%3), turned(impl.StDeleted, 6, 0, (place+1)%3))
				m.Procs[place].Lock, m.Procs[place].Earliest = 3, earliest
				h := kept(impl.AtRing, checkOf(place), timer)
				want := impl.Done{Mem: clonedMem(m), Hand: h}
				want.Hand.At = impl.AtFree
				checking.check(t, memPlan, m, 3, h, want)
			}
		}
	}
}

// Only the top is asked: neither who stands below it, nor whom the hand holds, though he be due.
func TestRingAsksOnlyTheTop(t *testing.T) {
	for _, top := range []impl.Timer{waiting(51, 1), turned(impl.StModifying, 51, 9, 1), turned(impl.StRunning, 51, 9, 1), turned(impl.StRunning, 4, 0, 1)} {
		for _, below := range []impl.Timer{waiting(51, 1), turned(impl.StDeleted, 52, 0, 1), turned(impl.StEarlier, 52, 5, 1), turned(impl.StLater, 52, 60, 1), turned(impl.StModifying, 52, 5, 1), turned(impl.StRunning, 52, 5, 1)} {
			m := memOf(memPlan, 50, waiting(5, 0), top, below, waiting(53, 1))
			m.Procs[0].Lock, m.Procs[1].Lock = 0, 0
			for timer := int64(-1); timer < 4; timer++ {
				h := kept(impl.AtRing, checkOf(1), timer)
				want := impl.Done{Mem: m, Hand: h}
				want.Hand.At = impl.AtFree
				checking.check(t, memPlan, m, 0, h, want)
			}
		}
	}
}

// What is told is the timer that rings, by its Gen, its When, and the Clock.
func TestRingTellsWhatRings(t *testing.T) {
	for _, gen := range []int64{0, 1, 7, genLimit} {
		for _, clock := range []int64{0, 60, timeLimit - 1} {
			for _, when := range []int64{0, clock / 2, clock} {
				for id := range int64(4) {
					k := impl.Timer{Status: impl.StWaiting, When: when, Next: 3, Period: 4, Place: 2, Gen: gen, Kind: 1, Mail: 2}
					m := memOf(memPlan, clock, slices.Insert(slices.Repeat([]impl.Timer{waiting(timeLimit, 2)}, 3), int(id), k)...)
					m.Procs[2].Lock = 1
					h := kept(impl.AtRing, checkOf(2), (id+1)%4)
					want := impl.Done{Mem: clonedMem(m), Hand: h, Ev: impl.Ev{Kind: 3, Timer: id, Gen: gen, When: when, At: clock}}
					want.Mem.Timers[id].Status = impl.StRunning
					want.Hand.Timer, want.Hand.At = id, impl.AtAgain
					checking.check(t, memPlan, m, 1, h, want)
				}
			}
		}
	}
}

// While the top is being changed he who looks after the heap stays, as often as he looks; when its word is turned he goes on, by what it came to be: nobody below it is forgotten.
func TestRingWaitsForTheTopThatIsBeingChanged(t *testing.T) {
	for _, c := range []struct {
		changer impl.Hand
		rung    []int64
	}{
		{impl.Hand{At: impl.AtTurn, Call: stopOf(1), Timer: 1}, []int64{0, 2}},
		{impl.Hand{At: impl.AtKey, Call: resetOf(1, 0), Timer: 1, When: 10, Had: true}, []int64{1, 0, 2}},
		{impl.Hand{At: impl.AtKey, Call: resetOf(1, 0), Timer: 1, When: 20, Had: true}, []int64{0, 1, 2}},
		{impl.Hand{At: impl.AtKey, Call: resetOf(1, 0), Timer: 1, When: 50}, []int64{0, 2, 1}},
		{impl.Hand{At: impl.AtKey, Call: resetOf(1, 0), Timer: 1, When: 51}, []int64{0, 2}},
	} {
		for w := range memPlan.Workers {
			m := memOf(memPlan, 50, waiting(20, 0), turned(impl.StModifying, 20, 0, 0), waiting(49, 0), waiting(30, 1))
			slices.Reverse(m.Procs[0].Heap[:2])
			m.Procs[0].Lock = w
			h := kept(impl.AtRing, checkOf(0), -1)
			for range 3 {
				checking.check(t, memPlan, m, w, h, impl.Done{Mem: m, Hand: h})
			}
			change := stopping
			if c.changer.At == impl.AtKey {
				change = resetting
			}
			one := caller{worker: (w + 1) % 4, hand: c.changer}
			m = one.oneStep(t, change, memPlan, m).Mem
			s := checker{caller{worker: w, hand: h}}
			m = s.rest(t, memPlan, m)
			got := []int64{}
			for _, ev := range s.told {
				got = append(got, ev.Timer)
			}
			if !slices.Equal(got, c.rung) || s.hand != impl.Resting(impl.RpOk, int64(4+len(c.rung))) || len(impl.DueIn(memPlan, m)) != 1 {
				t.Fatalf("behind %+v there rang %v of %v", c.changer, got, m)
			}
		}
	}
}

// Who rang comes in again by his Period, or is out; he need not stand at the top by then. What is told of it was told when it rang.
func TestAgainByThePeriod(t *testing.T) {
	for _, c := range []struct{ clock, period, next int64 }{
		{50, 0, 0}, {0, 0, 0}, {timeLimit - 1, 0, 0}, {50, 7, 54}, {50, 10, 60}, {50, 11, 51}, {50, 1, 51}, {40, 7, 47}, {41, 7, 47}, {47, 7, 54}, {46, 7, 47}, {0, 7, 47},
		{50, timeLimit, timeLimit}, {50, timeLimit - 40, timeLimit}, {50, timeLimit - 41, timeLimit - 1}, {timeLimit - 1, 1, timeLimit}, {timeLimit - 1, timeLimit / 2, timeLimit}, {timeLimit - 1, 2, timeLimit},
	} {
		for place := range memPlan.Procs {
			for w := range memPlan.Workers {
				k := marked(turned(impl.StRunning, 40, 3, place))
				k.Period = c.period
				m := memOf(memPlan, c.clock, waiting(30, place), k, waiting(45, place), turned(impl.StRunning, 20, 0, (place+1)%3))
				m.Procs[place].Lock, m.Procs[place].Earliest = w, 9
				h := kept(impl.AtAgain, checkOf(place), 1)
				want := impl.Done{Mem: clonedMem(m), Hand: h}
				want.Hand.At = impl.AtTell
				want.Mem.Procs[place].Heap = []impl.Slot{{Id: 0, Key: 30}, {Id: 2, Key: 45}}
				if k.Status, k.Place = impl.StNone, -1; c.period > 0 {
					k.Status, k.When, k.Place = impl.StWaiting, c.next, place
					want.Mem.Procs[place].Heap = append(want.Mem.Procs[place].Heap, impl.Slot{Id: 1, Key: c.next})
				}
				want.Mem.Timers[1] = k
				checking.check(t, memPlan, m, w, h, want)
			}
		}
	}
}

// It is to be there, to ring, and to stand in the heap that is looked after; though another one be held by this worker as well.
func TestAgainOfWhoDoesNotRingHere(t *testing.T) {
	for _, c := range standings {
		for _, place := range c.places {
			m := memOf(memPlan, 50, waiting(40, 0), marked(turned(c.status, c.when, c.next, place)), waiting(10, 2), waiting(30, 1))
			for w := range memPlan.Workers {
				for i := range m.Procs {
					m.Procs[i].Lock = w
				}
				for to := range memPlan.Procs {
					for timer := int64(-1); timer < 4; timer++ {
						h := kept(impl.AtAgain, checkOf(to), timer)
						checkFit(t, memPlan, m, w, h, true)
						if timer != 1 || c.status != impl.StRunning || place != to {
							checking.checkRefused(t, memPlan, m, w, h)
							continue
						}
						if d, is := impl.CheckStep(memPlan, m, w, h); !is || d.Mem.Timers[1].Status != impl.StNone || d.Hand.At != impl.AtTell {
							t.Errorf("AtAgain of %d at %d in %v is %+v, %v", timer, to, m, d, is)
						}
					}
				}
			}
		}
	}
}

// An empty mailbox is filled, with the Clock and 1; one that is not stays, and so does that of who is only told. Neither the lock matters, nor how the timer stands by then, nor where.
func TestTellMail(t *testing.T) {
	for _, c := range []struct{ kind, mail, clock, want int64 }{
		{impl.KdMail, 0, 0, 1}, {impl.KdMail, 0, 50, 51}, {impl.KdMail, 0, timeLimit - 1, timeLimit},
		{impl.KdMail, 1, 50, 1}, {impl.KdMail, 50, 50, 50}, {impl.KdMail, 51, 50, 51}, {impl.KdMail, timeLimit + 1, 50, timeLimit + 1},
		{impl.KdFunc, 0, 0, 0}, {impl.KdFunc, 0, 50, 0}, {impl.KdFunc, 1, 50, 1}, {impl.KdFunc, timeLimit + 1, 50, timeLimit + 1},
	} {
		for _, s := range standings {
			for _, place := range s.places {
				for lock := int64(-1); lock < 2; lock++ {
					k := impl.Timer{Status: s.status, When: s.when, Next: s.next, Period: 7, Place: place, Gen: 9, Kind: c.kind, Mail: c.mail}
					m := memOf(memPlan, c.clock, waiting(40, 0), k, waiting(10, 2))
					m.Procs[2].Lock = lock
					h := kept(impl.AtTell, checkOf(2), 1)
					want := impl.Done{Mem: clonedMem(m), Hand: h}
					want.Mem.Timers[1].Mail = c.want
					want.Hand.At, want.Hand.Count = impl.AtRing, 5
					checking.check(t, memPlan, m, 1, h, want)
				}
			}
		}
	}
}

// The mailbox is that of the timer, though it stand in another heap by then: who rang for the last time may be set anew before he is told of.
func TestTellOfWhoStandsElsewhereByThen(t *testing.T) {
	p := impl.Plan{Procs: 2, Workers: 3, Timers: 3}
	m := memOf(p, 50, waiting(40, 0))
	s := newChecker(t, p, 2, 0)
	for s.hand.At != impl.AtTell && s.hand.At != impl.AtRest {
		m = s.step(t, p, m)
	}
	other := newResetter(t, p, 1, 0, 30)
	m = s.rest(t, p, other.rest(t, p, m))
	if want := (impl.Timer{Status: impl.StWaiting, When: 80, Place: 1, Gen: 2, Mail: 51}); m.Timers[0] != want || s.hand != impl.Resting(impl.RpOk, 1) {
		t.Errorf("%v, not %v; %+v", m, want, s.hand)
	}
}

// Count is one more with each that rang, filled or not, and never more than MaxCount.
func TestTellCounts(t *testing.T) {
	for _, c := range []struct{ count, want int64 }{{0, 1}, {1, 2}, {7, 8}, {countLimit - 2, countLimit - 1}, {countLimit - 1, countLimit}, {countLimit, countLimit}} {
		for timer := range int64(3) {
			m := memOf(memPlan, 50, waiting(40, 0), marked(outside(impl.StNone, 20)), marked(turned(impl.StRunning, 30, 0, 1)))
			m.Timers[2].Kind = impl.KdMail
			h := kept(impl.AtTell, checkOf(1), timer)
			h.Count = c.count
			d, is := impl.CheckStep(memPlan, m, 3, h)
			if h.At, h.Count = impl.AtRing, c.want; !is || d.Hand != h || d.Ev != (impl.Ev{}) {
				t.Errorf("AtTell with Count %d is %+v, %v", c.count, d, is)
			}
		}
	}
}

func TestTellOfNoTimer(t *testing.T) {
	for _, m := range []impl.Mem{variedMem(), heldMem(2), memOf(variedPlan, 0), memOf(variedPlan, 3, turned(impl.StRunning, 2, 0, 0))} {
		for w := range variedPlan.Workers {
			for place := range variedPlan.Procs {
				h := kept(impl.AtTell, checkOf(place), -1)
				checkFit(t, variedPlan, m, w, h, true)
				checking.checkRefused(t, variedPlan, m, w, h)
			}
		}
	}
}

// The lock of P is given back by who holds it, and by nobody else; no other lock is. He is told how many rang, and keeps nothing.
func TestFreeEachLock(t *testing.T) {
	for place := range memPlan.Procs {
		for w := range memPlan.Workers {
			for lock := int64(-1); lock < memPlan.Workers; lock++ {
				for _, count := range []int64{0, 1, 7, countLimit} {
					for timer := int64(-1); timer < 3; timer++ {
						m := memOf(memPlan, 50, waiting(5, place), turned(impl.StDeleted, 3, 0, place), turned(impl.StRunning, 9, 7, 2))
						for i := range m.Procs {
							m.Procs[i].Lock, m.Procs[i].Earliest = w, 6
						}
						m.Procs[place].Lock = lock
						h := kept(impl.AtFree, checkOf(place), timer)
						h.Count = count
						want := impl.Done{Mem: clonedMem(m), Hand: impl.Hand{Timer: -1, Reply: 1, Out: count}}
						if lock == w {
							want.Mem.Procs[place].Lock = -1
						}
						checking.check(t, memPlan, m, w, h, want)
					}
				}
			}
		}
	}
}

// What goes by the heap is only for who holds the lock of P, though he hold all others; for all else the lock does not matter.
func TestCheckOnlyUnderLock(t *testing.T) {
	for _, h := range checkHands() {
		for w := range variedPlan.Workers {
			for lock := int64(-1); lock < variedPlan.Workers; lock++ {
				for other := int64(-1); other < variedPlan.Workers; other++ {
					m := variedMem()
					m.Procs[h.Call.A].Lock, m.Procs[1-h.Call.A].Lock = lock, other
					checkFit(t, variedPlan, m, w, h, true)
					if h.At == impl.AtRest || lock != w && (h.At == impl.AtTidy || h.At == impl.AtRing || h.At == impl.AtAgain) {
						checking.checkRefused(t, variedPlan, m, w, h)
					} else if _, is := impl.CheckStep(variedPlan, m, w, h); !is {
						t.Errorf("at %d of worker %d in %v there is no step", h.At, w, m)
					}
				}
			}
		}
	}
}

// All steps of this chapter are of OpCheck alone.
func TestCheckOfAnotherCode(t *testing.T) {
	calls := append(otherCalls(variedPlan, impl.OpCheck), stopOf(1), resetOf(1, 9), impl.Call{Code: impl.OpMove, A: 1, B: 0}, impl.Call{Code: impl.OpRecv, A: 1}, newCall)
	for _, c := range calls {
		for _, h := range checkHands() {
			h.Call = c
			for w := range variedPlan.Workers {
				m := heldMem(w)
				checkFit(t, variedPlan, m, w, h, true)
				checking.checkRefused(t, variedPlan, m, w, h)
				checking.checkRefused(t, variedPlan, variedMem(), w, h)
			}
		}
	}
}

func TestCheckAtOtherAts(t *testing.T) {
	checking.checkOtherAts(t, variedPlan, heldMem(2), checkAts, checkOf(0), checkOf(1))
}

func TestCheckOfEachWorker(t *testing.T) {
	for w := range variedPlan.Workers {
		checking.checkWorker(t, variedPlan, heldMem(w), w, checkHands())
	}
}

func TestCheckTimerThatIsNotThere(t *testing.T) {
	for w := range variedPlan.Workers {
		checking.checkTimerNotThere(t, variedPlan, heldMem(w), checkHands())
	}
}

func TestCheckArgumentsNotRight(t *testing.T) {
	checking.checkUnfitArguments(t, variedPlan, heldMem(2), checkHands())
}

// All that is of this chapter, and a bit of all else, of each timer in a memory with one of each status.
func TestCheckAsToldOfEachTimer(t *testing.T) {
	for place := range variedPlan.Procs {
		for lock := int64(-1); lock < 2; lock++ {
			m := variedMem()
			m.Procs[place].Lock = lock
			for timer := int64(-1); timer <= int64(len(m.Timers)); timer++ {
				for w := int64(-1); w < 3; w++ {
					for at := range int64(atLimit + 2) {
						for _, c := range []impl.Call{checkOf(place), stopOf(place), newCall} {
							checking.checkAnswers(t, variedPlan, m, w, impl.Hand{At: at, Call: c, Timer: timer, When: 70, Count: 9, Begin: 9})
						}
					}
				}
			}
		}
	}
}

// anyCheckHand is mostly fit, and at a step of this chapter, of a processor that somebody holds where there is one, and of a timer that rings there.
func anyCheckHand(r *rand.Rand, p impl.Plan, m impl.Mem) impl.Hand {
	h := anyHand(r, p, 60)
	if r.Intn(8) > 0 {
		h.At = checkAts[r.Intn(len(checkAts))]
	}
	if r.Intn(8) > 0 {
		h.Call = checkOf(r.Int63n(p.Procs))
	}
	if place := slices.IndexFunc(m.Procs, func(x impl.Proc) bool { return x.Lock >= 0 }); place >= 0 && r.Intn(2) == 0 {
		h.Call = checkOf(int64(place))
	}
	if r.Intn(5) > 0 {
		h.Timer = r.Int63n(int64(len(m.Timers))+1) - 1
	}
	held := func(place int64) bool { // of a disturbed memory the Place may be anywhere
		return place >= 0 && place < int64(len(m.Procs)) && m.Procs[place].Lock >= 0
	}
	if k := slices.IndexFunc(m.Timers, func(k impl.Timer) bool { return k.Status == impl.StRunning && held(k.Place) }); k >= 0 && r.Intn(3) == 0 {
		h.At, h.Timer, h.Call = impl.AtAgain, int64(k), checkOf(m.Timers[k].Place)
	}
	return h
}

func TestCheckAsToldOfMixtures(t *testing.T) {
	made, replies, refused := checking.checkMixtures(t, 12, anyCheckHand)
	counts := []int{replies[impl.RpOk], refused}
	for _, at := range checkAts {
		counts = append(counts, made[at])
	}
	for _, count := range counts {
		if count < 300 {
			t.Errorf("only so few: %v, %v, %d", made, replies, refused)
		}
	}
}

// A checker is a worker that looks after a heap.
type checker struct{ caller }

func newChecker(t *testing.T, p impl.Plan, w int64, place int64) checker {
	t.Helper()
	return checker{newCaller(t, p, w, checkOf(place))}
}

// step makes one step, and sees that it touches no other heap: no other processor, and no timer that does not stand in this one, but for the mailbox of who rang. Its slots change only where he holds it, when he tidies, and when who rings comes in again.
func (s *checker) step(t *testing.T, p impl.Plan, m impl.Mem) impl.Mem {
	t.Helper()
	before := s.hand
	at, place := before.At, before.Call.A
	d := s.oneStep(t, checking, p, m)
	others := clonedMem(m)
	others.Procs[place] = d.Mem.Procs[place]
	for i := range others.Timers {
		k, after := &others.Timers[i], d.Mem.Timers[i]
		if at == impl.AtTell && int64(i) == before.Timer {
			k.Mail = after.Mail
		} else if k.Place == place && at != impl.AtTell {
			k.Status, k.When, k.Place = after.Status, after.When, after.Place
		}
	}
	if !sameMem(d.Mem, others) {
		t.Fatalf("at %d of the heap %d %v came to be %v", at, place, m, d.Mem)
	}
	was, is := m.Procs[place], d.Mem.Procs[place]
	if !slices.Equal(was.Heap, is.Heap) && (was.Lock != s.worker || at != impl.AtTidy && at != impl.AtAgain) || was.Lock != is.Lock && at != impl.AtGrab && at != impl.AtFree {
		t.Fatalf("at %d of worker %d %v came to be %v", at, s.worker, was, is)
	}
	if (d.Ev != impl.Ev{}) != (at == impl.AtRing && d.Hand.At == impl.AtAgain) {
		t.Fatalf("at %d there is told %+v", at, d.Ev)
	}
	return d.Mem
}

// most makes the steps that are left, as many as there can be where nobody else is there; whether he comes to rest.
func (s *checker) most(t *testing.T, p impl.Plan, m impl.Mem) (impl.Mem, bool) {
	t.Helper()
	for range 4*len(m.Timers) + 4 {
		if s.hand.At != impl.AtRest {
			m = s.step(t, p, m)
		}
	}
	return m, s.hand.At == impl.AtRest
}

func (s *checker) rest(t *testing.T, p impl.Plan, m impl.Mem) impl.Mem {
	t.Helper()
	m, is := s.most(t, p, m)
	if !is {
		t.Fatalf("%+v stays in %v", s.hand, m)
	}
	return m
}

// dueThere are those that are due in that heap, rising.
func dueThere(p impl.Plan, m impl.Mem, place int64) []int64 {
	return slices.DeleteFunc(impl.DueIn(p, m), func(id int64) bool { return m.Timers[id].Place != place })
}

// checkRang sees that just who was due there rang, once, in order, as it was told; that it is in the mailbox, if that was empty; and that it comes in again behind the Clock by its Period, or is out.
func (s checker) checkRang(t *testing.T, p impl.Plan, m impl.Mem, after impl.Mem, place int64) {
	t.Helper()
	rang, last := []int64{}, int64(0)
	for _, ev := range s.told {
		k := m.Timers[ev.Timer]
		when, _ := effect(k)
		if ev != (impl.Ev{Kind: impl.EvRing, Timer: ev.Timer, Gen: k.Gen, When: when, At: m.Clock}) || when < last {
			t.Fatalf("of %v, behind %d, there is told %+v", k, last, ev)
		}
		rang, last = append(rang, ev.Timer), when
		mail := k.Mail
		if k.Kind == impl.KdMail && mail == 0 {
			mail = m.Clock + 1
		}
		then := after.Timers[ev.Timer]
		next, is := effect(then)
		if is != (k.Period > 0) || is && (next <= m.Clock || next > m.Clock+k.Period || next < timeLimit && (next-when)%k.Period != 0 || then.Place != place) || then.Mail != mail || then.Gen != k.Gen {
			t.Fatalf("%v rang at %d, and came to be %v", k, m.Clock, then)
		}
	}
	slices.Sort(rang)
	if want := dueThere(p, m, place); !slices.Equal(rang, want) || s.hand != impl.Resting(impl.RpOk, int64(len(want))) {
		t.Fatalf("in the heap %d of %v there rang %v, not %v; he is told %+v", place, m, rang, want, s.hand)
	}
}

// Promise 12: who looks after a heap rings all that is due there, and leaves it tidy and free; no other heap is touched by any step, and who did not ring is due as before.
func TestPromise12TouchesNoOtherHeap(t *testing.T) {
	rings := 0
	for i, c := range tidyMems(t) {
		m := unheld(c.m)
		for place := range c.p.Procs {
			m.Procs[place].Lock = -1
			s := newChecker(t, c.p, int64(i)%c.p.Workers, place)
			after := s.rest(t, c.p, m)
			s.checkRang(t, c.p, m, after, place)
			for id, k := range m.Timers {
				whenBefore, isBefore := effect(k)
				when, is := effect(after.Timers[id])
				rang := slices.ContainsFunc(s.told, func(ev impl.Ev) bool { return ev.Timer == int64(id) })
				if !rang && (when != whenBefore || is != isBefore) {
					t.Fatalf("%v came to be %v", k, after.Timers[id])
				}
			}
			if x := after.Procs[place]; x.Lock != -1 || x.Earliest != -1 || x.Deleted != 0 || len(dueThere(c.p, after, place)) > 0 {
				t.Fatalf("the heap %d of %v is left as %v", place, m, x)
			}
			rings += len(s.told)
			m = after
		}
		if len(impl.DueIn(c.p, m)) > 0 {
			t.Fatalf("in %v some are still due", m)
		}
	}
	if rings < 500 {
		t.Errorf("only %d rang", rings)
	}
}

// Promise 12: where others are at some of the timers he stays only at a top that is being changed, whose time has come; or he comes to rest, whatever he could not ring.
func TestPromise12StaysOnlyAtTheTopThatIsBeingChanged(t *testing.T) {
	stays, rests := 0, 0
	for i, c := range tidyMems(t) {
		for place := range c.p.Procs {
			m := clonedMem(c.m)
			m.Procs[place].Lock = -1
			s := newChecker(t, c.p, int64(i)%c.p.Workers, place)
			after, is := s.most(t, c.p, m)
			heap := after.Procs[place].Heap
			if is {
				rests++
				if len(heap) > 0 {
					if k := after.Timers[heap[0].Id]; k.When <= after.Clock && k.Status != impl.StRunning || untidy(k) {
						t.Fatalf("he rests, though %v stands at the top of %v", k, after)
					}
				}
				continue
			}
			stays++
			if k := after.Timers[heap[0].Id]; s.hand.At != impl.AtRing || k.Status != impl.StModifying || k.When > after.Clock {
				t.Fatalf("%+v stays at %v in %v", s.hand, k, after)
			}
			checking.check(t, c.p, after, s.worker, s.hand, impl.Done{Mem: after, Hand: s.hand})
		}
	}
	if stays < 50 || rests < 300 {
		t.Errorf("only %d stayed, and %d came to rest", stays, rests)
	}
}

// Promise 12: two that look after different heaps by turns in any order do the same as the one behind the other.
func TestPromise12TwoAtDifferentHeaps(t *testing.T) {
	r := rand.New(rand.NewSource(1212))
	pairs := 0
	for _, c := range tidyMems(t) {
		if c.p.Procs < 2 || c.p.Workers < 2 {
			continue
		}
		pairs++
		place := r.Int63n(c.p.Procs)
		other := (place + 1 + r.Int63n(c.p.Procs-1)) % c.p.Procs
		m := unheld(c.m)
		m.Procs[place].Lock, m.Procs[other].Lock = -1, -1
		one, two := newChecker(t, c.p, 0, place), newChecker(t, c.p, 1, other)
		want := two.rest(t, c.p, one.rest(t, c.p, m))
		both := []checker{newChecker(t, c.p, 0, place), newChecker(t, c.p, 1, other)}
		for range 20 * (len(m.Timers) + 1) {
			if s := &both[r.Intn(2)]; s.hand.At != impl.AtRest {
				m = s.step(t, c.p, m)
			}
		}
		for i := range both {
			m = both[i].rest(t, c.p, m)
		}
		if !sameMem(m, want) || both[0].hand != one.hand || both[1].hand != two.hand || !slices.Equal(both[0].told, one.told) || !slices.Equal(both[1].told, two.told) {
			t.Fatalf("by turns %v came of %v, not %v", m, c.m, want)
		}
	}
	if pairs < 200 {
		t.Errorf("only %d pairs", pairs)
	}
}

// anyTurnBy makes the next step of who creates a timer, stops one, sets one anew, or looks after a heap, and sees that a lock is taken only where it is free, given back only by who holds it, and that nobody else changes the slots.
func anyTurnBy(t *testing.T, c *caller, p impl.Plan, m impl.Mem) impl.Mem {
	t.Helper()
	before := m
	switch c.hand.Call.Code {
	case impl.OpNew:
		m = c.oneStep(t, creating, p, m).Mem
	case impl.OpCheck:
		s := checker{*c}
		m = s.step(t, p, m)
		*c = s.caller
	default:
		m = turnBy(t, c, p, m)
	}
	for i, x := range before.Procs {
		after := m.Procs[i]
		if !slices.Equal(x.Heap, after.Heap) && x.Lock != c.worker || x.Lock != after.Lock && x.Lock != -1 && x.Lock != c.worker {
			t.Fatalf("by worker %d %v came to be %v", c.worker, x, after)
		}
	}
	return m
}

// comeAgain enters into the ledger who rang, and is armed again by its Period.
func (l ledger) comeAgain(t *testing.T, m impl.Mem, id int64) {
	t.Helper()
	if k := m.Timers[id]; k.Period > 0 {
		if k.When <= m.Clock {
			t.Fatalf("at %d %v comes in again", m.Clock, k)
		}
		l.armed[id] = impl.Ev{Kind: impl.EvArm, Timer: id, Gen: k.Gen, When: k.When}
	}
}

// Promise 12: while others create, stop and set anew what stands in the same heaps, each ring is of one that is armed, at its time or later, and of none that was cancelled; and in the end all that is due rings.
func TestPromise12AmongMany(t *testing.T) {
	r := rand.New(rand.NewSource(121212))
	waits, rang := map[int64]int{}, 0
	for range 250 {
		p := impl.Plan{Procs: 1 + r.Int63n(3), Workers: 2 + r.Int63n(workersLimit-1), Timers: 9}
		timers := []impl.Timer{outside(impl.StNone, 30)}
		for range 5 {
			k := waiting(45+r.Int63n(30), r.Int63n(p.Procs))
			k.Period, k.Kind = r.Int63n(2)*(20+r.Int63n(40)), r.Int63n(2)
			timers = append(timers, k)
		}
		m := memOf(p, 50, timers...)
		story := newLedger(m)
		ask := func() impl.Call {
			return []impl.Call{stopOf(r.Int63n(9)), resetOf(r.Int63n(9), r.Int63n(20)), checkOf(r.Int63n(p.Procs)), checkOf(r.Int63n(p.Procs)), {Code: impl.OpNew, B: r.Int63n(20), C: 20 + r.Int63n(40)}}[r.Intn(5)]
		}
		m = byTurns(t, r, p, m, 60, ask, func(c *caller, m impl.Mem) impl.Mem {
			before := *c
			after := anyTurnBy(t, c, p, m)
			if c.hand == before.hand && sameMem(m, after) {
				waits[c.hand.At]++
			}
			story.hear(t, c.told[len(before.told):])
			if before.hand.At == impl.AtAgain {
				rang++
				story.comeAgain(t, after, before.hand.Timer)
			}
			story.check(t, after)
			return after
		})
		m = impl.Elapsed(p, m, r.Int63n(30))
		for place := range p.Procs {
			s := newChecker(t, p, r.Int63n(p.Workers), place)
			after := s.rest(t, p, m)
			s.checkRang(t, p, m, after, place)
			m = after
		}
		if len(impl.DueIn(p, m)) > 0 {
			t.Fatalf("in %v some are still due", m)
		}
	}
	if waits[impl.AtGrab] < 300 || waits[impl.AtRing] < 100 || waits[impl.AtLook] < 100 || rang < 1000 {
		t.Errorf("only so often somebody waited: %v; and only %d rang", waits, rang)
	}
}

// Promise 19: an answer is new memory, also where nothing was done.
func TestPromise19CheckingIsNewMemory(t *testing.T) {
	for _, h := range append(checkHands(), impl.Hand{At: impl.AtTake, Call: newCall, Timer: -1}) {
		for w := range variedPlan.Workers {
			checking.checkNewMemory(t, variedPlan, heldMem(w), w, h)
			checking.checkNewMemory(t, variedPlan, variedMem(), w, h)
		}
	}
	checking.checkNewMemories(t, 1219, anyCheckHand)
}

// Promise 19: it answers at every argument, and does not panic.
func TestPromise19CheckingAnswersEverywhere(t *testing.T) {
	checking.checkEverywhere(t, variedPlan, heldMem(1), checkHands())
}
