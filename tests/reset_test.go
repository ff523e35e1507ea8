package tests

import (
	"math/rand"
	"slices"
	"testing"

	"loop.example/g00743/impl"
)

// The table of the chapter, line by line, by the numbers of the document.
func expectedReset(p impl.Plan, m impl.Mem, w int64, h impl.Hand) (impl.Done, bool) {
	if !expectedFit(p, m, w, h) {
		return impl.Done{}, false
	}
	d := impl.Done{Mem: clonedMem(m), Hand: h}
	if h.At == 5 && h.Call.Code == 3 {
		return expectedLookToReset(d), true
	}
	if h.At != 7 || h.Timer == -1 {
		return impl.Done{}, false
	}
	k := &d.Mem.Timers[h.Timer]
	if k.Status != 2 || k.Place == -1 {
		return impl.Done{}, false
	}
	if k.Gen < genLimit {
		k.Gen++
	}
	k.Next = h.When
	d.Ev = impl.Ev{Kind: 1, Timer: h.Timer, Gen: k.Gen, When: h.When, At: m.Clock}
	d.Hand = impl.Hand{Timer: -1, Reply: 3}
	if h.Had {
		d.Hand.Reply = 2
	}
	if h.When >= k.When {
		k.Status = 4
		return d, true
	}
	k.Status = 3
	if earliest := &d.Mem.Procs[k.Place].Earliest; *earliest == -1 || *earliest > h.When {
		*earliest = h.When
	}
	return d, true
}

func expectedLookToReset(d impl.Done) impl.Done {
	id := d.Hand.Call.A
	if id >= int64(len(d.Mem.Timers)) {
		d.Hand = impl.Hand{Timer: -1, Reply: 5}
		return d
	}
	k := &d.Mem.Timers[id]
	if k.Status == 2 || k.Status == 6 {
		return d
	}
	d.Hand.Timer, d.Hand.When, d.Hand.At = id, min(d.Mem.Clock+d.Hand.Call.B, timeLimit), 7
	if when, is := effect(*k); is {
		d.Hand.Had = true
		d.Ev = impl.Ev{Kind: 2, Timer: id, Gen: k.Gen, When: when, At: d.Mem.Clock}
	} else if k.Status == 5 {
		d.Mem.Procs[k.Place].Deleted--
	} else {
		d.Hand.At = 2
	}
	k.Status = 2
	return d
}

var resetting = stepper{"ResetStep", impl.ResetStep, expectedReset}

func resetOf(timer int64, delay int64) impl.Call {
	return impl.Call{Code: impl.OpReset, A: timer, B: delay}
}

// resetHands are fit in variedMem, each at a step that can be made, of each outcome; and one at rest.
func resetHands() []impl.Hand {
	list := []impl.Hand{}
	for _, id := range []int64{0, 1, 2, 3, 4, 5, 6, 7, 10} {
		list = append(list, impl.Hand{At: impl.AtLook, Call: resetOf(id, 30), Timer: -1})
	}
	return append(list, impl.Hand{At: impl.AtKey, Call: resetOf(3, 30), Timer: 3, When: 129, Had: true}, impl.Hand{At: impl.AtKey, Call: newCall, Timer: 3, When: 130}, impl.NewHand())
}

// A whole OpReset, each step of it written out, by each worker, whoever holds the heap: of one that waits (0, and 9), of one that is earlier (1), of one that is later (4), and of one that is stopped, but still in its heap (5).
func TestResetWhole(t *testing.T) {
	for _, c := range []struct{ timer, gen, place, cancelled, delay, next, status, earliest int64 }{
		{0, 20, 0, 150, 44, 94, impl.StEarlier, 94}, {0, 20, 0, 150, 99, 149, impl.StEarlier, 95}, {0, 20, 0, 150, 100, 150, impl.StLater, 95}, {0, 20, 0, 150, 101, 151, impl.StLater, 95},
		{1, 21, 0, 95, 20, 70, impl.StEarlier, 70}, {1, 21, 0, 95, 45, 95, impl.StEarlier, 95}, {1, 21, 0, 95, 139, 189, impl.StEarlier, 95}, {1, 21, 0, 95, 140, 190, impl.StLater, 95}, {1, 21, 0, 95, 141, 191, impl.StLater, 95},
		{4, 24, 1, 170, 29, 79, impl.StEarlier, 79}, {4, 24, 1, 170, 30, 80, impl.StLater, -1}, {4, 24, 1, 170, 31, 81, impl.StLater, -1}, {4, 24, 1, 170, 120, 170, impl.StLater, -1}, {4, 24, 1, 170, 121, 171, impl.StLater, -1},
		{9, 29, 1, 60, 0, 50, impl.StEarlier, 50}, {9, 29, 1, 60, 10, 60, impl.StLater, -1}, {9, 29, 1, 60, timeLimit, timeLimit, impl.StLater, -1},
		{5, 25, 0, -1, 34, 84, impl.StEarlier, 84}, {5, 25, 0, -1, 35, 85, impl.StLater, 95}, {5, 25, 0, -1, 36, 86, impl.StLater, 95},
	} {
		for w := range variedPlan.Workers {
			m, call := variedMem(), resetOf(c.timer, c.delay)
			m.Clock = 50
			h, _ := impl.Called(variedPlan, impl.NewHand(), call)
			want := impl.Done{Mem: clonedMem(m), Hand: impl.Hand{At: impl.AtKey, Call: call, Timer: c.timer, When: c.next}}
			want.Mem.Timers[c.timer].Status = impl.StModifying
			if c.cancelled >= 0 {
				want.Hand.Had = true
				want.Ev = impl.Ev{Kind: impl.EvCancel, Timer: c.timer, Gen: c.gen, When: c.cancelled, At: 50}
			} else {
				want.Mem.Procs[0].Deleted = 0
			}
			resetting.check(t, variedPlan, m, w, h, want)

			before := want
			want.Mem = clonedMem(want.Mem)
			k := &want.Mem.Timers[c.timer]
			k.Status, k.Next, k.Gen = c.status, c.next, c.gen+1
			want.Mem.Procs[c.place].Earliest = c.earliest
			want.Hand, want.Ev = impl.Hand{Timer: -1, Reply: impl.RpYes}, impl.Ev{Kind: impl.EvArm, Timer: c.timer, Gen: c.gen + 1, When: c.next, At: 50}
			if c.cancelled < 0 {
				want.Hand.Reply = impl.RpNo
			}
			resetting.check(t, variedPlan, before.Mem, w, before.Hand, want)
			resetting.checkRefused(t, variedPlan, want.Mem, w, want.Hand) // and that was all

			before = want
			want.Mem = clonedMem(want.Mem)
			want.Mem.Timers[c.timer].Status = impl.StModifying
			want.Hand = impl.Hand{At: impl.AtKey, Call: call, Timer: c.timer, When: c.next, Had: true} // and what was said then is cancelled by the next one
			want.Ev = impl.Ev{Kind: impl.EvCancel, Timer: c.timer, Gen: c.gen + 1, When: c.next, At: 50}
			resetting.check(t, variedPlan, before.Mem, w, h, want)
		}
	}
}

// Likewise of those that stand in no heap: they come into that of the worker's processor, where the lock is free, by the steps of chapter 9.
func TestResetWholeOfWhoStandsInNoHeap(t *testing.T) {
	for _, c := range []struct{ timer, gen int64 }{{2, 22}, {7, 27}} {
		for w := range variedPlan.Workers {
			m, call := variedMem(), resetOf(c.timer, 25)
			m.Procs[w%2].Lock, m.Procs[1-w%2].Lock = -1, 3
			h, _ := impl.Called(variedPlan, impl.NewHand(), call)
			want := impl.Done{Mem: clonedMem(m), Hand: impl.Hand{At: impl.AtLock, Call: call, Timer: c.timer, When: 125}}
			k := &want.Mem.Timers[c.timer]
			k.Status = impl.StModifying
			resetting.check(t, variedPlan, m, w, h, want)
			resetting.checkRefused(t, variedPlan, want.Mem, w, want.Hand) // the next one is of chapter 9

			s := resetter{caller{worker: w, hand: want.Hand}}
			got := s.rest(t, variedPlan, want.Mem)
			k.Status, k.Place, k.When, k.Gen = impl.StWaiting, w%2, 125, c.gen+1
			if got.Timers[c.timer] != *k || s.hand != (impl.Hand{Timer: -1, Reply: impl.RpNo}) || got.Procs[w%2].Lock != -1 {
				t.Errorf("%v is %v, %+v", k, got, s.hand)
			}
			if !slices.Equal(s.told, []impl.Ev{{Kind: impl.EvArm, Timer: c.timer, Gen: c.gen + 1, When: 125, At: 100}}) {
				t.Errorf("of %v there is told %+v", k, s.told)
			}
		}
	}
}

// What the hand holds stays beside its Timer, When and At, and beside Had where that is made true; where he stays, all of it.
func TestLookToResetAtEachStatus(t *testing.T) {
	resetting.checkLookAtEachStatus(t, resetOf(2, 30), func(c standing, want *impl.Done) {
		if c.stays {
			return
		}
		k := &want.Mem.Timers[2]
		want.Hand.Timer, want.Hand.At, want.Hand.When = 2, impl.AtKey, map[int64]int64{0: 30, 45: 75, 50: 80, timeLimit - 1: timeLimit}[want.Mem.Clock]
		switch {
		case c.told >= 0:
			want.Hand.Had = true
			want.Ev = impl.Ev{Kind: 2, Timer: 2, Gen: k.Gen, When: c.told, At: want.Mem.Clock}
		case c.status == impl.StDeleted:
			want.Mem.Procs[k.Place].Deleted = []int64{0, 0, 1}[k.Place] // there is another one in the last one
		default:
			want.Hand.At = impl.AtLock
		}
		k.Status = impl.StModifying
	})
}

// Who is changed, or rings, is looked at again and again, by as many as there are, till he stands in another way.
func TestLookToResetStaysWhileSomebodyIsAtIt(t *testing.T) {
	resetting.checkStays(t, resetOf(1, 30))
	resetting.checkStays(t, resetOf(1, 0))
	for timer := int64(-1); timer < 2; timer++ {
		h := impl.Hand{At: impl.AtLook, Call: resetOf(1, 30), Timer: timer}
		for _, k := range []impl.Timer{waiting(70, 1), turned(impl.StDeleted, 45, 60, 1), outside(impl.StNone, 45)} {
			again := memOf(memPlan, 50, waiting(40, 0), k)
			want := impl.Done{Mem: clonedMem(again), Hand: impl.Hand{At: impl.AtKey, Call: h.Call, Timer: 1, When: 80}}
			want.Mem.Timers[1].Status = impl.StModifying
			switch k.Status {
			case impl.StWaiting:
				want.Hand.Had, want.Ev = true, impl.Ev{Kind: 2, Timer: 1, Gen: 1, When: 70, At: 50}
			case impl.StDeleted:
				want.Mem.Procs[1].Deleted = 0
			default:
				want.Hand.At = impl.AtLock
			}
			resetting.check(t, memPlan, again, 2, h, want)
		}
	}
}

// When in the hand is the Clock by the delay, never more than MaxTime, whatever stood there, and whatever the timer's own When is.
func TestLookToResetWhen(t *testing.T) {
	for _, c := range saidTimes {
		for id, k := range []impl.Timer{waiting(70, 1), turned(impl.StEarlier, 90, 20, 1), turned(impl.StLater, 90, 95, 0), turned(impl.StDeleted, 90, 5, 1), outside(impl.StNone, 70), outside(impl.StRemoved, 70)} {
			m := memOf(memPlan, c.clock, slices.Insert(slices.Repeat([]impl.Timer{waiting(5, 0)}, 5), id, k)...)
			for _, when := range []int64{0, 33, timeLimit} {
				h := impl.Hand{At: impl.AtLook, Call: resetOf(int64(id), c.delay), Timer: -1, When: when}
				d, is := impl.ResetStep(memPlan, m, 2, h)
				if !is || d.Hand.When != c.want || d.Hand.Timer != int64(id) || d.Mem.Timers[id].When != k.When || d.Mem.Timers[id].Next != k.Next {
					t.Errorf("ResetStep(%v, %+v) is %+v, %v", m, h, d, is)
				}
			}
		}
	}
}

// Of the Place of the timer alone one less is counted as Deleted, from as many as there may be down to none, in each processor of each plan.
func TestLookToResetCountsDeletedInItsPlace(t *testing.T) {
	for procs := int64(1); procs <= procsLimit; procs++ {
		p := impl.Plan{Procs: procs, Workers: workersLimit, Timers: timersLimit}
		for place := range procs {
			timers := []impl.Timer{}
			for i := range int64(timersLimit) {
				timers = append(timers, turned(impl.StDeleted, 90+i%7, 0, (place+max(0, i-20))%procs))
			}
			m := memOf(p, 50, timers...)
			for i := range int64(timersLimit) {
				want := clonedMem(m)
				want.Timers[i].Status = impl.StModifying
				want.Procs[timers[i].Place].Deleted--
				h := impl.Hand{At: impl.AtLook, Call: resetOf(i, 7), Timer: -1}
				d, is := impl.ResetStep(p, m, i%workersLimit, h)
				if !is || !sameMem(d.Mem, want) || d.Hand != (impl.Hand{At: impl.AtKey, Call: h.Call, Timer: i, When: 57}) || d.Ev != (impl.Ev{}) {
					t.Fatalf("AtLook of %d in %v is %+v, %v", i, m, d, is)
				}
				m = d.Mem
			}
			for _, x := range m.Procs {
				if x.Deleted != 0 {
					t.Fatalf("nobody is stopped any longer in %v", m)
				}
			}
		}
	}
}

// A timer that the plan may have need not be there: the last one that is, and the one behind it, in each plan.
func TestLookToResetWhoIsThere(t *testing.T) {
	for most := int64(1); most <= timersLimit; most++ {
		p := impl.Plan{Procs: 2, Workers: 3, Timers: most}
		for count := range most + 1 {
			m := memOf(p, 100, slices.Repeat([]impl.Timer{turned(impl.StLater, 80, 130, 1)}, int(count))...)
			for id := range most {
				h := impl.Hand{At: impl.AtLook, Call: resetOf(id, 5), Timer: count - 1, When: 3, Had: true, Count: 4, Begin: 5, Reply: 2, Out: 6}
				want := impl.Done{Mem: clonedMem(m), Hand: impl.Hand{Timer: -1, Reply: impl.RpNone}}
				if id < count {
					want.Hand = impl.Hand{At: impl.AtKey, Call: h.Call, Timer: id, When: 105, Had: true, Count: 4, Begin: 5, Reply: 2, Out: 6}
					want.Mem.Timers[id].Status = impl.StModifying
					want.Ev = impl.Ev{Kind: 2, Timer: id, Gen: 2, When: 130, At: 100}
				}
				resetting.check(t, p, m, 1, h, want)
			}
		}
	}
}

func TestLookToResetOfAnotherCode(t *testing.T) {
	resetting.checkLookOfAnotherCode(t, impl.OpReset)
}

// It is replied by Had, and by nothing else; Gen is one more than it was.
func TestKeyAtEachStatus(t *testing.T) {
	for _, had := range []bool{false, true} {
		for _, next := range []int64{0, 44, 45, 46, 59, 60, 61, timeLimit} {
			resetting.checkTurnAtEachStatus(t, impl.Hand{At: impl.AtKey, When: next, Had: had}, func(place int64, want *impl.Done) {
				k := &want.Mem.Timers[1]
				k.Next, k.Gen, k.Status = next, 18, impl.StLater
				if next < k.When {
					k.Status = impl.StEarlier
					want.Mem.Procs[place].Earliest = next
				}
				want.Ev = impl.Ev{Kind: 1, Timer: 1, Gen: 18, When: next, At: 50}
				want.Hand = impl.Hand{Timer: -1, Reply: 3}
				if had {
					want.Hand.Reply = 2
				}
			})
		}
	}
}

func TestKeyOfNoTimer(t *testing.T) {
	resetting.checkTurnOfNoTimer(t, impl.AtKey)
}

// Earlier is what is less than its When; the same is later. Neither the Clock nor what its Next was matters.
func TestKeyEarlierOrLater(t *testing.T) {
	const E, L = impl.StEarlier, impl.StLater
	for _, c := range []struct{ when, next, status int64 }{
		{45, 44, E}, {45, 45, L}, {45, 46, L}, {45, 0, E}, {45, timeLimit, L}, {0, 0, L}, {0, 1, L}, {0, timeLimit, L}, {1, 0, E}, {1, 1, L},
		{timeLimit, 0, E}, {timeLimit, timeLimit - 1, E}, {timeLimit, timeLimit, L}, {timeLimit - 1, timeLimit - 2, E}, {timeLimit - 1, timeLimit - 1, L}, {timeLimit - 1, timeLimit, L},
	} {
		for _, clock := range []int64{0, 44, 45, 46, timeLimit - 1} {
			for _, was := range []int64{0, 45, timeLimit} {
				m := memOf(memPlan, clock, waiting(40, 1), turned(impl.StModifying, c.when, was, 1))
				d, is := impl.ResetStep(memPlan, m, 0, impl.Hand{At: impl.AtKey, Call: resetOf(1, 9), Timer: 1, When: c.next})
				if k := d.Mem.Timers[1]; !is || k.Status != c.status || k.Next != c.next || k.When != c.when || k.Place != 1 || !slices.Equal(d.Mem.Procs[1].Heap, m.Procs[1].Heap) {
					t.Errorf("AtKey with %d in %v is %+v, %v", c.next, m, d, is)
				}
			}
		}
	}
}

// Earliest is Next where that is less, or where it is none, of the Place alone; who is later leaves it, and so it may be too early.
func TestKeyEarliest(t *testing.T) {
	for _, c := range []struct{ when, earliest, next, want int64 }{
		{40, -1, 30, 30}, {40, timeLimit, 30, 30}, {40, 31, 30, 30}, {40, 30, 30, 30}, {40, 29, 30, 29}, {40, 0, 30, 0}, {40, -1, 0, 0}, {40, 1, 0, 0}, {40, 0, 0, 0}, {40, 40, 39, 39}, {40, 41, 39, 39},
		{40, -1, 40, -1}, {40, 50, 40, 50}, {40, 41, 40, 41}, {40, 40, 40, 40}, {40, 39, 40, 39}, {40, -1, 41, -1}, {40, 42, 41, 42}, {40, 0, 41, 0}, {0, -1, 0, -1}, {0, 1, 0, 1}, {40, -1, timeLimit, -1},
		{timeLimit, -1, timeLimit - 1, timeLimit - 1}, {timeLimit, timeLimit, timeLimit - 1, timeLimit - 1}, {timeLimit, timeLimit, timeLimit, timeLimit},
	} {
		for place := range memPlan.Procs {
			for _, others := range []int64{-1, 0, 30, timeLimit} {
				for w := range memPlan.Workers {
					m := memOf(memPlan, 35, waiting(50, 0), waiting(50, 1), waiting(50, 2), turned(impl.StModifying, c.when, 0, place))
					for i := range m.Procs {
						m.Procs[i].Earliest, m.Procs[i].Lock = others, int64(i)
					}
					m.Procs[place].Earliest = c.earliest
					want := clonedMem(m)
					want.Procs[place].Earliest = c.want
					d, is := impl.ResetStep(memPlan, m, w, impl.Hand{At: impl.AtKey, Call: resetOf(3, 9), Timer: 3, When: c.next})
					if want.Timers = d.Mem.Timers; !is || !sameMem(d.Mem, want) {
						t.Errorf("AtKey with %d in %v is %+v, %v", c.next, m, d, is)
					}
				}
			}
		}
	}
}

// Gen is one more, never more than MaxGen, and what is armed tells the new one; the When told is the hand's, At the Clock.
func TestKeyTellsWhatIsArmed(t *testing.T) {
	for _, c := range []struct{ gen, want int64 }{{0, 1}, {1, 2}, {7, 8}, {genLimit - 2, genLimit - 1}, {genLimit - 1, genLimit}, {genLimit, genLimit}} {
		for _, clock := range []int64{0, 60, timeLimit - 1} {
			for _, when := range []int64{0, 59, 60, 61, timeLimit} { // who is due already is armed as well
				k := impl.Timer{Status: impl.StModifying, When: 60, Next: 3, Period: 4, Place: 1, Gen: c.gen, Kind: 1, Mail: 2}
				m := memOf(createPlan, clock, waiting(5, 0), k)
				want := impl.Done{Mem: clonedMem(m), Hand: impl.Hand{Timer: -1, Reply: 2}, Ev: impl.Ev{Kind: 1, Timer: 1, Gen: c.want, When: when, At: clock}}
				k.Status, k.Next, k.Gen = impl.StLater, when, c.want
				if when < 60 {
					k.Status, want.Mem.Procs[1].Earliest = impl.StEarlier, when
				}
				want.Mem.Timers[1] = k
				for _, call := range rightCalls(createPlan) { // with each Code
					h := impl.Hand{At: impl.AtKey, Call: call, Timer: 1, When: when, Had: true, Count: 2, Begin: 6, Reply: 1, Out: 5}
					resetting.check(t, createPlan, m, 2, h, want)
				}
			}
		}
	}
}

func TestResetAtOtherAts(t *testing.T) {
	resetting.checkOtherAts(t, variedPlan, variedMem(), []int64{impl.AtLook, impl.AtKey}, resetOf(0, 9), resetOf(3, 9))
}

func TestResetOfEachWorker(t *testing.T) {
	resetting.checkEachWorker(t, variedPlan, variedMem(), resetHands())
}

func TestResetTimerThatIsNotThere(t *testing.T) {
	resetting.checkTimerNotThere(t, variedPlan, variedMem(), resetHands())
}

func TestResetArgumentsNotRight(t *testing.T) {
	resetting.checkUnfitArguments(t, variedPlan, variedMem(), resetHands())
}

// All that is of this chapter, and a bit of all else, of each timer in a memory with one of each status.
func TestResetAsToldOfEachTimer(t *testing.T) {
	m := variedMem()
	for id := range variedPlan.Timers {
		for timer := int64(-1); timer <= int64(len(m.Timers)); timer++ {
			for w := int64(-1); w <= variedPlan.Workers; w++ {
				for at := range int64(atLimit + 2) {
					for _, c := range []impl.Call{resetOf(id, 5), stopOf(id), newCall} {
						resetting.checkAnswers(t, variedPlan, m, w, impl.Hand{At: at, Call: c, Timer: timer, When: 70, Had: id%2 == 1, Begin: 9})
					}
				}
			}
		}
	}
}

// anyResetHand is mostly fit, and at a step of this chapter, of a timer that can be keyed where there is one, and often to a time that is near its When.
func anyResetHand(r *rand.Rand, p impl.Plan, m impl.Mem) impl.Hand {
	h := anyHand(r, p, 60)
	if r.Intn(5) > 0 {
		h.At = []int64{impl.AtLook, impl.AtKey}[r.Intn(2)]
	}
	if r.Intn(4) > 0 {
		h.Call = resetOf(r.Int63n(p.Timers), []int64{0, r.Int63n(30), r.Int63n(timeLimit + 1)}[r.Intn(3)])
	}
	if r.Intn(5) > 0 {
		h.Timer = r.Int63n(int64(len(m.Timers))+1) - 1
	}
	if k := slices.IndexFunc(m.Timers, func(k impl.Timer) bool { return k.Status == impl.StModifying && k.Place >= 0 }); k >= 0 && r.Intn(3) == 0 {
		h.At, h.Timer = impl.AtKey, int64(k)
		h.When = min(max(m.Timers[k].When+r.Int63n(5)-2, 0), timeLimit)
	}
	return h
}

func TestResetAsToldOfMixtures(t *testing.T) {
	made, replies, refused := resetting.checkMixtures(t, 11, anyResetHand)
	for _, count := range []int{made[impl.AtLook], made[impl.AtKey], replies[impl.RpYes], replies[impl.RpNo], replies[impl.RpNone], refused} {
		if count < 500 {
			t.Errorf("only so few: %v, %v, %d", made, replies, refused)
		}
	}
}

// A resetter is a worker that sets a timer anew.
type resetter struct{ caller }

func newResetter(t *testing.T, p impl.Plan, w int64, id int64, delay int64) resetter {
	t.Helper()
	return resetter{newCaller(t, p, w, resetOf(id, delay))}
}

// step makes one step, of this chapter or of chapter 9, and sees of those of this one that they change only what is theirs: the timer's word, what it was set to, and what is counted of that in its Place.
func (s *resetter) step(t *testing.T, p impl.Plan, m impl.Mem) impl.Mem {
	t.Helper()
	id, at := s.hand.Call.A, s.hand.At
	if at != impl.AtLook && at != impl.AtKey {
		return s.oneStep(t, creating, p, m).Mem
	}
	d := s.oneStep(t, resetting, p, m)
	others := clonedMem(m)
	if id < int64(len(m.Timers)) {
		k, after := &others.Timers[id], d.Mem.Timers[id]
		if k.Status == impl.StDeleted {
			others.Procs[k.Place].Deleted--
		}
		k.Status = after.Status
		if at == impl.AtKey {
			k.Next, k.Gen = after.Next, after.Gen
			others.Procs[k.Place].Earliest = d.Mem.Procs[k.Place].Earliest
		}
	}
	if !sameMem(d.Mem, others) {
		t.Fatalf("at %d of timer %d %v came to be %v", at, id, m, d.Mem)
	}
	return d.Mem
}

// rest makes all steps that are left; nobody else is there to stay for.
func (s *resetter) rest(t *testing.T, p impl.Plan, m impl.Mem) impl.Mem {
	t.Helper()
	for range 4 {
		if s.hand.At != impl.AtRest {
			m = s.step(t, p, m)
		}
	}
	if s.hand.At != impl.AtRest {
		t.Fatalf("%+v stays in %v", s.hand, m)
	}
	return m
}

// checkDueAt sees that the timer is due at that time, rings then when its heap is looked after, and is not due ahead of it.
func checkDueAt(t *testing.T, p impl.Plan, m impl.Mem, id int64, when int64) {
	t.Helper()
	if at, is := effect(m.Timers[id]); !is || at != when {
		t.Fatalf("who is to be due at %d is %v", when, m.Timers[id])
	}
	if wake := impl.WakeAll(p, m); wake < 0 || wake > when {
		t.Fatalf("%v is to wake at %d, and not by %d", m, wake, when)
	}
	for _, clock := range []int64{when - 1, max(when, m.Clock)} {
		if clock < m.Clock || clock >= timeLimit {
			continue
		}
		then := impl.Elapsed(p, m, clock-m.Clock)
		_, rung := rungOut(t, p, then, m.Timers[id].Place)
		if due := clock >= when; slices.Contains(impl.DueIn(p, then), id) != due || slices.Contains(rung, id) != due {
			t.Fatalf("at %d %d is due at %d of %v, and there ring %v", clock, id, when, m, rung)
		}
	}
}

// checkOthersDue sees that nobody but that timer is due at another time, or in another heap.
func checkOthersDue(t *testing.T, m impl.Mem, after impl.Mem, id int64) {
	t.Helper()
	for i, k := range m.Timers {
		whenBefore, isBefore := effect(k)
		when, is := effect(after.Timers[i])
		if int64(i) != id && (when != whenBefore || is != isBefore || after.Timers[i].Place != k.Place) {
			t.Fatalf("by setting %d anew %v came to be %v", id, k, after.Timers[i])
		}
	}
}

// Promise 11: who is set anew is due when that was said, however it stood before, and not ahead of it; what it was set to is cancelled, and the new time is armed.
func TestPromise11DueWhenThatWasSaid(t *testing.T) {
	r := rand.New(rand.NewSource(111))
	resets := map[int64]int{}
	for _, c := range tidyMems(t) {
		before := unheld(c.m)
		for i := range before.Procs {
			before.Procs[i].Lock = -1
		}
		for i, k := range before.Timers {
			if k.Status == impl.StModifying {
				continue
			}
			id := int64(i)
			delay := []int64{0, 1, r.Int63n(30), max(k.When-before.Clock, 1) - 1, max(k.When-before.Clock, 0), max(k.When-before.Clock, 0) + 1, timeLimit}[r.Intn(7)]
			s := newResetter(t, c.p, r.Int63n(c.p.Workers), id, min(delay, timeLimit))
			said := min(before.Clock+delay, timeLimit)
			m := s.rest(t, c.p, before)
			want, reply := []impl.Ev{}, impl.Resting(impl.RpNo, 0)
			if when, is := effect(k); is {
				want, reply = append(want, impl.Ev{Kind: impl.EvCancel, Timer: id, Gen: k.Gen, When: when, At: before.Clock}), impl.Resting(impl.RpYes, 0)
			}
			want = append(want, impl.Ev{Kind: impl.EvArm, Timer: id, Gen: k.Gen + 1, When: said, At: before.Clock})
			if !slices.Equal(s.told, want) || s.hand != reply {
				t.Fatalf("of %v set to %d there is told %+v, and %+v", k, said, s.told, s.hand)
			}
			if at := m.Timers[i]; at.Gen != k.Gen+1 || k.Place >= 0 && at.Place != k.Place || k.Place < 0 && at.Place != expectedHome(c.p, s.worker) {
				t.Fatalf("%v came to be %v", k, at)
			}
			checkDueAt(t, c.p, m, id, said)
			checkOthersDue(t, before, m, id)
			resets[k.Status]++
		}
	}
	for _, status := range []int64{impl.StNone, impl.StWaiting, impl.StEarlier, impl.StLater, impl.StDeleted, impl.StRemoved} {
		if resets[status] < 300 {
			t.Errorf("only so few were set anew: %v", resets)
		}
	}
}

// Promise 11: it was said when he looked: it does not come to be later while he is on his way, whatever the Clock is by then.
func TestPromise11SaidWhenHeLooked(t *testing.T) {
	for _, k := range []impl.Timer{waiting(70, 1), turned(impl.StEarlier, 90, 40, 1), turned(impl.StLater, 30, 65, 1), turned(impl.StDeleted, 55, 0, 1), outside(impl.StNone, 5), outside(impl.StRemoved, 5)} {
		for _, delay := range []int64{0, 10, 19, 20, 21, 40, 1000} {
			for _, pause := range []int64{0, 1, 30, 500} {
				m := memOf(memPlan, 50, waiting(60, 0), k)
				s := newResetter(t, memPlan, 1, 1, delay)
				for range 4 {
					if s.hand.At != impl.AtRest {
						m = impl.Elapsed(memPlan, s.step(t, memPlan, m), pause)
					}
				}
				checkDueAt(t, memPlan, m, 1, 50+delay)
				last := s.told[len(s.told)-1]
				if last.Kind != impl.EvArm || last.When != 50+delay || pause > 0 && last.At == 50 {
					t.Fatalf("told of %v is %+v", k, s.told)
				}
			}
		}
	}
}

// Promise 11: of many in one heap that are set to be earlier, and some later again, Earliest is the least time that any was told while it was earlier, so that nobody is overslept.
func TestPromise11TheLeastOfManyEarlier(t *testing.T) {
	r := rand.New(rand.NewSource(1111))
	p := impl.Plan{Procs: 2, Workers: 3, Timers: timersLimit}
	for range 60 {
		timers := []impl.Timer{}
		for i := range int64(timersLimit) {
			timers = append(timers, waiting(100+r.Int63n(200), i%2))
		}
		m, least := memOf(p, 50, timers...), []int64{-1, -1}
		for range 40 {
			id := r.Int63n(timersLimit)
			s := newResetter(t, p, r.Int63n(p.Workers), id, r.Int63n(300))
			m = s.rest(t, p, m)
			k := m.Timers[id]
			if x := &least[k.Place]; k.Status == impl.StEarlier && (*x < 0 || *x > k.Next) {
				*x = k.Next
			}
			for i, x := range m.Procs {
				if x.Earliest != least[i] || !slices.Equal(x.Heap, memOf(p, 50, timers...).Procs[i].Heap) {
					t.Fatalf("the least one in the heap %d of %v is %d", i, m, least[i])
				}
			}
			first := int64(timeLimit)
			for _, k := range m.Timers {
				when, _ := effect(k)
				first = min(first, when)
			}
			if impl.WakeAll(p, m) > first {
				t.Fatalf("%v is to wake at %d, though one is due at %d", m, impl.WakeAll(p, m), first)
			}
		}
		for place := range p.Procs { // and all ring by their new times
			then := impl.Elapsed(p, m, 1000)
			want := slices.DeleteFunc(impl.DueIn(p, then), func(id int64) bool { return m.Timers[id].Place != place })
			_, rung := rungOut(t, p, then, place)
			if slices.Sort(rung); !slices.Equal(rung, want) {
				t.Fatalf("of %v there ring %v, not %v", then, rung, want)
			}
		}
	}
}

// Promise 11: who was stopped is due again, by his place as it is then: in the heap still, or taken out of it; and so is who rang for the last time, or will ring again.
func TestPromise11BehindStoppingAndRinging(t *testing.T) {
	p := impl.Plan{Procs: 3, Workers: 7, Timers: 4}
	for w := range p.Workers {
		for _, delay := range []int64{0, 5, 50, timeLimit} {
			for _, period := range []int64{0, 15} {
				k := waiting(60, 1)
				k.Period = period
				m := memOf(p, 70, waiting(90, 0), k)
				s := newStopper(t, p, 3, 1)
				stopped := s.step(t, p, s.step(t, p, m))
				rung, _ := impl.RungAt(p, m, 1)
				rung, _ = impl.Rearmed(p, rung, 1)
				for i, then := range []impl.Mem{stopped, tidiedUp(t, p, stopped, 1), rung} {
					c := newResetter(t, p, w, 1, delay)
					after := c.rest(t, p, then)
					reply, place := int64(impl.RpNo), int64(1)
					if i == 2 && period > 0 {
						reply = impl.RpYes
					} else if i > 0 {
						place = expectedHome(p, w)
					}
					if c.hand != impl.Resting(reply, 0) || after.Timers[1].Place != place {
						t.Fatalf("%v, set anew by worker %d, is %v; he is told %+v", then.Timers[1], w, after.Timers[1], c.hand)
					}
					checkDueAt(t, p, after, 1, min(70+delay, timeLimit))
				}
			}
		}
	}
}

// A ledger has, of each timer that was armed, and neither was cancelled nor rang since, what was told of that, and the Gens told last.
type ledger struct {
	armed map[int64]impl.Ev
	gens  map[int64]int64
}

func newLedger(m impl.Mem) ledger {
	l := ledger{armed: map[int64]impl.Ev{}, gens: map[int64]int64{}}
	for i, k := range m.Timers {
		id := int64(i)
		l.gens[id] = k.Gen
		if when, is := effect(k); is {
			l.armed[id] = impl.Ev{Kind: impl.EvArm, Timer: id, Gen: k.Gen, When: when}
		}
	}
	return l
}

// hear sees that what is armed was not, that what is cancelled, or rings, was, that all are told as it was, and that none rings ahead of its time.
func (l ledger) hear(t *testing.T, evs []impl.Ev) {
	t.Helper()
	for _, ev := range evs {
		last, is := l.armed[ev.Timer]
		if is == (ev.Kind == impl.EvArm) || is && (ev.Gen != last.Gen || ev.When != last.When) || !is && ev.Gen != l.gens[ev.Timer]+1 || ev.Kind == impl.EvRing && ev.When > ev.At {
			t.Fatalf("%+v is told after %+v", ev, last)
		}
		if delete(l.armed, ev.Timer); ev.Kind == impl.EvArm {
			l.armed[ev.Timer], l.gens[ev.Timer] = ev, ev.Gen
		}
	}
}

// check sees that just those that are armed are due, and when that was said.
func (l ledger) check(t *testing.T, m impl.Mem) {
	t.Helper()
	for i, k := range m.Timers {
		when, is := effect(k)
		if last, isArmed := l.armed[int64(i)]; is != isArmed || is && when != last.When {
			t.Fatalf("%v was told last by %+v", k, last)
		}
	}
}

// turnBy makes the next step of who stops a timer, or sets it anew.
func turnBy(t *testing.T, c *caller, p impl.Plan, m impl.Mem) impl.Mem {
	t.Helper()
	if c.hand.Call.Code == impl.OpStop {
		s := stopper{*c}
		m = s.step(t, p, m)
		*c = s.caller
		return m
	}
	s := resetter{*c}
	m = s.step(t, p, m)
	*c = s.caller
	return m
}

// Promise 11: of many who set the same ones anew, or stop them, by turns in any order, each timer is due when that was said last, or not at all; each time is cancelled before the next one is armed; and nobody comes between who has seized a timer and what he does.
func TestPromise11ManySetTheSameAnew(t *testing.T) {
	r := rand.New(rand.NewSource(11111))
	waits := 0
	for range 300 {
		p := impl.Plan{Procs: 1 + r.Int63n(procsLimit), Workers: 2 + r.Int63n(workersLimit-1), Timers: 4}
		m := memOf(p, 50, waiting(60+r.Int63n(30), r.Int63n(p.Procs)), waiting(80, r.Int63n(p.Procs)), outside(impl.StNone, 30))
		story := newLedger(m)
		ask := func() impl.Call {
			return []impl.Call{stopOf(r.Int63n(4)), resetOf(r.Int63n(4), r.Int63n(60)), resetOf(r.Int63n(3), r.Int63n(60))}[r.Intn(3)]
		}
		m = byTurns(t, r, p, m, 40, ask, func(c *caller, m impl.Mem) impl.Mem {
			before := *c
			m = turnBy(t, c, p, m)
			if c.hand == before.hand {
				waits++
			}
			story.hear(t, c.told[len(before.told):])
			story.check(t, m)
			return m
		})
		for id, ev := range story.armed {
			checkDueAt(t, p, m, id, ev.When)
		}
	}
	if waits < 300 {
		t.Errorf("only %d times somebody waited", waits)
	}
}

// Promise 19: an answer is new memory, also where nothing was done.
func TestPromise19ResettingIsNewMemory(t *testing.T) {
	for _, h := range append(resetHands(), impl.Hand{At: impl.AtTake, Call: newCall, Timer: -1}) {
		for w := range variedPlan.Workers {
			resetting.checkNewMemory(t, variedPlan, variedMem(), w, h)
		}
	}
	resetting.checkNewMemories(t, 1119, anyResetHand)
}

// Promise 19: it answers at every argument, and does not panic.
func TestPromise19ResettingAnswersEverywhere(t *testing.T) {
	resetting.checkEverywhere(t, variedPlan, variedMem(), resetHands())
}
