package tests

import (
	"math"
	"math/rand"
	"slices"
	"testing"

	"loop.example/g00743/impl"
)

// The document's own words, the slots of all processors laid together as what stands where.
func expectedMemOk(p impl.Plan, m impl.Mem) bool {
	if !impl.PlanOk(p) || m.Clock < 0 || m.Clock > timeLimit-1 || int64(len(m.Timers)) > p.Timers || int64(len(m.Procs)) != p.Procs {
		return false
	}
	type spot struct{ place, id int64 }
	keys := map[spot]int64{}
	slots := 0
	for i, x := range m.Procs {
		if !expectedProcOk(p, x) {
			return false
		}
		for _, s := range x.Heap {
			keys[spot{int64(i), s.Id}] = s.Key
			slots++
		}
	}
	placed := 0
	deleted := make([]int64, len(m.Procs))
	for i, k := range m.Timers {
		if !expectedTimerOk(p, k) {
			return false
		}
		if k.Place == -1 {
			continue
		}
		placed++
		if key, is := keys[spot{k.Place, int64(i)}]; !is || key != k.When {
			return false
		}
		if k.Status == impl.StDeleted {
			deleted[k.Place]++
		}
		if told := m.Procs[k.Place].Earliest; k.Status == impl.StEarlier && (told == -1 || k.Next < told) {
			return false
		}
	}
	for i, x := range m.Procs {
		if x.Deleted != deleted[i] {
			return false
		}
	}
	// Each timer that has a Place has its slot, so that as many slots as those are these.
	return placed == slots
}

// effect is when a timer is due, and whether it is to be due at all.
func effect(k impl.Timer) (int64, bool) {
	if k.Status == impl.StWaiting {
		return k.When, true
	}
	if k.Status == impl.StEarlier || k.Status == impl.StLater {
		return k.Next, true
	}
	return 0, false
}

func expectedDue(p impl.Plan, m impl.Mem) []int64 {
	due := []int64{}
	if !expectedMemOk(p, m) {
		return due
	}
	for i := range int64(len(m.Timers)) {
		if at, is := effect(m.Timers[i]); is && at <= m.Clock {
			due = append(due, i)
		}
	}
	return due
}

func expectedWakeAll(p impl.Plan, m impl.Mem) int64 {
	least := int64(-1)
	if !expectedMemOk(p, m) {
		return least
	}
	for _, x := range m.Procs {
		if wake := expectedWake(x); wake >= 0 && (least < 0 || wake < least) {
			least = wake
		}
	}
	return least
}

func expectedElapsed(p impl.Plan, m impl.Mem, delay int64) impl.Mem {
	if !expectedMemOk(p, m) {
		return impl.Mem{}
	}
	later := clonedMem(m)
	if delay > timeLimit-1-m.Clock {
		later.Clock = timeLimit - 1
	} else if delay > 0 {
		later.Clock += delay
	}
	return later
}

// memOf lays the timers in heaps where they have a Place that there is, and tells Deleted and Earliest as they come.
func memOf(p impl.Plan, clock int64, timers ...impl.Timer) impl.Mem {
	m := impl.Mem{Clock: clock, Timers: timers}
	for place := range p.Procs {
		x := idle(nil)
		for i, k := range timers {
			if k.Place != place {
				continue
			}
			x.Heap = expectedRaised(append(x.Heap, impl.Slot{Id: int64(i), Key: k.When}), int64(len(x.Heap)))
			if k.Status == impl.StDeleted {
				x.Deleted++
			}
			if k.Status == impl.StEarlier && (x.Earliest < 0 || k.Next < x.Earliest) {
				x.Earliest = k.Next
			}
		}
		m.Procs = append(m.Procs, x)
	}
	return m
}

func clonedMem(m impl.Mem) impl.Mem {
	m.Timers, m.Procs = slices.Clone(m.Timers), slices.Clone(m.Procs)
	for i := range m.Procs {
		m.Procs[i].Heap = slices.Clone(m.Procs[i].Heap)
	}
	return m
}

func sameProc(a impl.Proc, b impl.Proc) bool {
	return slices.Equal(a.Heap, b.Heap) && a.Lock == b.Lock && a.Earliest == b.Earliest && a.Deleted == b.Deleted
}

func sameMem(a impl.Mem, b impl.Mem) bool {
	return a.Clock == b.Clock && slices.Equal(a.Timers, b.Timers) && slices.EqualFunc(a.Procs, b.Procs, sameProc)
}

// Shorter words for the timers of these tests.
func waiting(when int64, place int64) impl.Timer {
	return impl.Timer{Status: impl.StWaiting, When: when, Place: place, Gen: 1}
}

func turned(status int64, when int64, next int64, place int64) impl.Timer {
	return impl.Timer{Status: status, When: when, Next: next, Place: place, Gen: 2}
}

func outside(status int64, when int64) impl.Timer {
	return impl.Timer{Status: status, When: when, Place: -1, Gen: 1}
}

var memPlan = impl.Plan{Procs: 3, Workers: 4, Timers: 14}

// fullMem has timers of each status, of StModifying with a Place and without, and a processor whose heap is empty.
func fullMem() impl.Mem {
	m := memOf(memPlan, 50,
		waiting(40, 0), waiting(60, 0), turned(impl.StEarlier, 90, 45, 0), turned(impl.StLater, 30, 70, 0), turned(impl.StDeleted, 20, 0, 0),
		turned(impl.StModifying, 35, 5, 0), outside(impl.StModifying, 33), outside(impl.StNone, 10), outside(impl.StRemoved, 11),
		turned(impl.StRunning, 48, 0, 2), waiting(50, 2), turned(impl.StDeleted, 49, 0, 2), turned(impl.StEarlier, 80, 51, 2))
	m.Procs[0].Lock, m.Procs[2].Lock = 3, 0
	return m
}

// memCase is one memory and whether it is right.
type memCase struct {
	name string
	p    impl.Plan
	m    impl.Mem
	want bool
}

// checkMemCases asks all of MemOk, and sees of the others that they answer as of no memory where there is none.
func checkMemCases(t *testing.T, list []memCase) {
	t.Helper()
	for _, c := range list {
		if expectedMemOk(c.p, c.m) != c.want {
			t.Fatalf("%s: the second rendering says otherwise: %v, %v", c.name, c.p, c.m)
		}
		if got := impl.MemOk(c.p, c.m); got != c.want {
			t.Errorf("%s: MemOk(%v, %v) is %v", c.name, c.p, c.m, got)
		}
		checkMemAnswers(t, c.p, c.m)
	}
}

// edited is a copy of a memory in which something else stands.
func edited(m impl.Mem, edit func(m *impl.Mem)) impl.Mem {
	m = clonedMem(m)
	edit(&m)
	return m
}

func TestMemOkOrdinary(t *testing.T) {
	p := impl.Plan{Procs: 2, Workers: 3, Timers: 4}
	none := impl.Proc{Lock: -1, Earliest: -1}
	held := impl.Proc{Heap: []impl.Slot{{Id: 1, Key: 8}, {Id: 0, Key: 12}}, Lock: 2, Earliest: 5, Deleted: 0}
	timers := []impl.Timer{turned(impl.StEarlier, 12, 5, 1), waiting(8, 1), outside(impl.StRemoved, 3)}
	checkMemCases(t, []memCase{
		{"none yet", p, impl.Mem{Procs: []impl.Proc{none, none}}, true},
		{"two in the second heap", p, impl.Mem{Clock: 4, Timers: timers, Procs: []impl.Proc{none, held}}, true},
		{"the heaps the other way round", p, impl.Mem{Clock: 4, Timers: timers, Procs: []impl.Proc{held, none}}, false},
		{"the heap twice", p, impl.Mem{Clock: 4, Timers: timers, Procs: []impl.Proc{held, held}}, false},
		{"no slots", p, impl.Mem{Clock: 4, Timers: timers, Procs: []impl.Proc{none, none}}, false},
		{"no timers", p, impl.Mem{Clock: 4, Procs: []impl.Proc{none, held}}, false},
		{"timers that are outside of all", p, impl.Mem{Timers: timers[2:], Procs: []impl.Proc{none, none}}, true},
		{"the zero Mem", p, impl.Mem{}, false},
		{"of each status", memPlan, fullMem(), true},
	})
}

func TestMemOkNilAndEmptyLists(t *testing.T) {
	p := impl.Plan{Procs: 1, Workers: 1, Timers: 1}
	checkMemCases(t, []memCase{
		{"nil", p, impl.Mem{Procs: []impl.Proc{idle(nil)}}, true},
		{"empty", p, impl.Mem{Timers: []impl.Timer{}, Procs: []impl.Proc{idle([]impl.Slot{})}}, true},
		{"no Procs but nil", p, impl.Mem{Timers: []impl.Timer{}}, false},
		{"no Procs", p, impl.Mem{Timers: []impl.Timer{}, Procs: []impl.Proc{}}, false},
		{"a timer outside, nil", p, impl.Mem{Timers: []impl.Timer{outside(impl.StNone, 3)}, Procs: []impl.Proc{idle(nil)}}, true},
		{"a timer outside, empty", p, impl.Mem{Timers: []impl.Timer{outside(impl.StNone, 3)}, Procs: []impl.Proc{idle([]impl.Slot{})}}, true},
		{"a timer that is nowhere, nil", p, impl.Mem{Timers: []impl.Timer{waiting(3, 0)}, Procs: []impl.Proc{idle(nil)}}, false},
	})
}

// wrongPlans are those of which one number is none, and the rest is as it was.
func wrongPlans(base impl.Plan) []impl.Plan {
	list := []impl.Plan{{}}
	for _, f := range fieldLimits {
		for _, n := range []int64{math.MinInt64, -1, 0, f.most + 1, math.MaxInt64} {
			p := base
			f.set(&p, n)
			list = append(list, p)
		}
	}
	return list
}

func TestMemOkPlanNotRight(t *testing.T) {
	for _, p := range wrongPlans(memPlan) {
		list := []memCase{{"the zero Mem", p, impl.Mem{}, false}, {"full", p, fullMem(), false}}
		for procs := range procsLimit + 3 {
			m := impl.Mem{}
			for range procs {
				m.Procs = append(m.Procs, idle(nil))
			}
			list = append(list, memCase{"empty", p, m, false})
		}
		checkMemCases(t, list)
	}
}

func TestMemOkClockAtItsLimits(t *testing.T) {
	for clock, want := range map[int64]bool{
		math.MinInt64: false, -2: false, -1: false, 0: true, 1: true, timeLimit - 2: true, timeLimit - 1: true,
		timeLimit: false, timeLimit + 1: false, 1 << 32: false, math.MaxInt64: false,
	} {
		full := fullMem()
		full.Clock = clock
		empty := memOf(memPlan, clock)
		late := memOf(memPlan, clock, waiting(timeLimit, 1), turned(impl.StLater, timeLimit, timeLimit, 0))
		checkMemCases(t, []memCase{{"full", memPlan, full, want}, {"empty", memPlan, empty, want}, {"late", memPlan, late, want}})
	}
}

func TestMemOkHowManyTimers(t *testing.T) {
	for _, p := range append([]impl.Plan{memPlan, {Procs: 1, Workers: 1, Timers: 2}, {Procs: 1, Workers: 1, Timers: timersLimit}}, rightPlans...) {
		for _, count := range []int64{0, 1, p.Timers - 1, p.Timers, p.Timers + 1, p.Timers + 2, timersLimit, timersLimit + 1, 500} {
			in, out := []impl.Timer{}, []impl.Timer{}
			for i := range count {
				in, out = append(in, waiting(100+i, i%p.Procs)), append(out, outside(impl.StNone, i))
			}
			checkMemCases(t, []memCase{{"in", p, memOf(p, 5, in...), count <= p.Timers}, {"out", p, memOf(p, 5, out...), count <= p.Timers}})
		}
	}
}

func TestMemOkHowManyProcs(t *testing.T) {
	for procs := int64(1); procs <= procsLimit; procs++ {
		p := impl.Plan{Procs: procs, Workers: 2, Timers: 3}
		for count := range int64(procsLimit + 4) {
			m := impl.Mem{Timers: []impl.Timer{outside(impl.StRemoved, 2)}}
			for range count {
				m.Procs = append(m.Procs, idle(nil))
			}
			checkMemCases(t, []memCase{{"so many Procs", p, m, count == procs}})
		}
	}
}

// A timer or a processor that is not right of itself, while all that is shared agrees.
func TestMemOkPartsNotRight(t *testing.T) {
	list := []memCase{}
	timer := func(name string, k impl.Timer, want bool) {
		list = append(list, memCase{name, memPlan, memOf(memPlan, 50, waiting(9, 0), k, waiting(12, 2)), want})
	}
	timer("a Status past the last", outside(8, 9), false)
	timer("a Status below 0", outside(-1, 9), false)
	timer("StNone in a heap", turned(impl.StNone, 9, 0, 0), false)
	timer("StRemoved in a heap", turned(impl.StRemoved, 9, 0, 2), false)
	for _, status := range inHeaps {
		timer("in no heap", outside(status, 9), false)
	}
	timer("a Place past the last", waiting(9, 3), false)
	timer("a Place below -1", waiting(9, -2), false)
	timer("StEarlier that is not", turned(impl.StEarlier, 9, 9, 0), false)
	timer("StLater that is not", turned(impl.StLater, 9, 8, 0), false)
	timer("a When past MaxTime", waiting(timeLimit+1, 1), false)
	timer("a When below 0", waiting(-1, 1), false)
	for _, f := range timerFields {
		for n, want := range map[int64]bool{-1: false, 0: true, f.most: true, f.most + 1: false} {
			k := waiting(9, 1)
			f.set(&k, n)
			timer(f.name, k, want)
		}
	}
	for place := range int64(3) {
		proc := func(name string, want bool, edit func(x *impl.Proc)) {
			list = append(list, memCase{name, memPlan, edited(fullMem(), func(m *impl.Mem) { edit(&m.Procs[place]) }), want})
		}
		for lock, want := range map[int64]bool{-2: false, -1: true, 0: true, 3: true, 4: false, math.MaxInt64: false} {
			proc("Lock", want, func(x *impl.Proc) { x.Lock = lock })
		}
		for _, earliest := range []int64{-2, math.MinInt64, timeLimit + 1, math.MaxInt64} {
			proc("Earliest", false, func(x *impl.Proc) { x.Earliest = earliest })
		}
		if place != 1 {
			proc("no heap", false, func(x *impl.Proc) { last := len(x.Heap) - 1; x.Heap[0], x.Heap[last] = x.Heap[last], x.Heap[0] })
			proc("a slot twice", false, func(x *impl.Proc) { x.Heap = append(x.Heap, x.Heap[len(x.Heap)-1]) })
		}
	}
	alike := memOf(memPlan, 5, waiting(7, 1), waiting(7, 1))
	list = append(list, memCase{"of one Key either way", memPlan, alike, true})
	list = append(list, memCase{"of one Key the other way", memPlan, edited(alike, func(m *impl.Mem) { slices.Reverse(m.Procs[1].Heap) }), true})
	list = append(list, memCase{"one of them twice", memPlan, edited(alike, func(m *impl.Mem) { m.Procs[1].Heap[0] = m.Procs[1].Heap[1] }), false})
	checkMemCases(t, list)
}

// One slot more in a heap, or one of another Id or Key than before.
func TestMemOkSlotsOfTheirTimers(t *testing.T) {
	list := []memCase{}
	bare := memOf(memPlan, 50, waiting(40, 0), turned(impl.StLater, 40, 70, 0), outside(impl.StNone, 40), outside(impl.StModifying, 40), waiting(40, 1))
	for id, want := range map[int64]bool{math.MinInt64: false, -2: false, -1: false, 5: false, 6: false, 13: false, 14: false, 1 << 32: false, math.MaxInt64: false, 4: false, 3: false, 2: false, 1: false, 0: true} {
		list = append(list, memCase{"another Id", memPlan, edited(bare, func(m *impl.Mem) {
			m.Procs[0].Heap[slices.IndexFunc(m.Procs[0].Heap, func(s impl.Slot) bool { return s.Id == 0 })].Id = id
		}), want})
	}
	for place := range 3 {
		for _, id := range []int64{-1, 0, 1, 2, 3, 4, 5, 14} {
			list = append(list, memCase{"one more", memPlan, edited(bare, func(m *impl.Mem) {
				m.Procs[place].Heap = append(m.Procs[place].Heap, impl.Slot{Id: id, Key: 40})
			}), false})
		}
	}
	for status, next := range map[int64]int64{impl.StWaiting: 70, impl.StModifying: 70, impl.StEarlier: 30, impl.StLater: 70, impl.StDeleted: 70, impl.StRunning: 70} {
		one := memOf(memPlan, 50, turned(status, 40, next, 1))
		for key, want := range map[int64]bool{40: true, next: false, 39: false, 41: false, 0: false, -1: false, math.MinInt64: false, math.MaxInt64: false} {
			list = append(list, memCase{"another Key", memPlan, edited(one, func(m *impl.Mem) { m.Procs[1].Heap[0].Key = key }), want})
		}
	}
	for i := range fullMem().Procs {
		for j := range fullMem().Procs[i].Heap {
			list = append(list, memCase{"one Key more", memPlan, edited(fullMem(), func(m *impl.Mem) { m.Procs[i].Heap[j].Key++ }), false})
			list = append(list, memCase{"one Key less", memPlan, edited(fullMem(), func(m *impl.Mem) { m.Procs[i].Heap[j].Key-- }), false})
		}
	}
	checkMemCases(t, list)
}

// Each timer of a heap in turn without its slot, with it in another heap, and with another Place or none.
func TestMemOkTimersInTheirPlaces(t *testing.T) {
	list := []memCase{}
	for _, status := range append([]int64{impl.StModifying}, inHeaps...) {
		k := turned(status, 40, 70, 1)
		if status == impl.StEarlier {
			k.Next = 30
		}
		base := memOf(memPlan, 50, waiting(60, 0), k, waiting(60, 2))
		list = append(list, memCase{"as it is", memPlan, base, true})
		gone := edited(base, func(m *impl.Mem) { m.Procs[1] = idle(nil) })
		list = append(list, memCase{"no slot", memPlan, gone, false})
		list = append(list, memCase{"no slot, counted", memPlan, edited(base, func(m *impl.Mem) { m.Procs[1].Heap = nil }), false})
		for _, place := range []int{0, 2} {
			moved := edited(base, func(m *impl.Mem) {
				m.Procs[1] = idle(nil)
				m.Procs[place].Heap = []impl.Slot{{Id: 1, Key: 40}, m.Procs[place].Heap[0]}
				m.Procs[place].Earliest, m.Procs[place].Deleted = base.Procs[1].Earliest, base.Procs[1].Deleted
			})
			list = append(list, memCase{"its slot in another heap", memPlan, moved, false})
			list = append(list, memCase{"and its Place", memPlan, edited(moved, func(m *impl.Mem) { m.Timers[1].Place = int64(place) }), true})
			list = append(list, memCase{"another Place", memPlan, edited(base, func(m *impl.Mem) { m.Timers[1].Place = int64(place) }), false})
		}
		none := status == impl.StModifying
		list = append(list, memCase{"no Place, and a slot", memPlan, edited(base, func(m *impl.Mem) { m.Timers[1].Place = -1 }), false})
		list = append(list, memCase{"no Place, and no slot", memPlan, edited(gone, func(m *impl.Mem) { m.Timers[1].Place = -1 }), none})
	}
	checkMemCases(t, list)
}

func TestMemOkDeletedAsManyAsThereAre(t *testing.T) {
	list := []memCase{}
	for deleted := range int64(4) {
		timers := []impl.Timer{turned(impl.StDeleted, 5, 0, 1), turned(impl.StDeleted, 5, 0, 1), turned(impl.StDeleted, 6, 0, 1)}[:deleted]
		timers = append(timers, outside(impl.StRemoved, 4), waiting(9, 0), waiting(9, 1), turned(impl.StDeleted, 9, 0, 2), waiting(9, 2), outside(impl.StNone, 9))
		for place, there := range []int64{0, deleted, 1} {
			for told := int64(-1); told <= 5; told++ {
				m := memOf(memPlan, 50, timers...)
				m.Procs[place].Deleted = told
				list = append(list, memCase{"Deleted", memPlan, m, told == there})
			}
		}
	}
	for status := range int64(statusesCount) {
		k := impl.Timer{Status: status, When: 5, Next: 5, Place: placeFor(status)}
		if status == impl.StEarlier {
			k.Next = 4
		}
		m := memOf(memPlan, 50, k, waiting(7, 0))
		m.Procs[0].Deleted = 1
		list = append(list, memCase{"one that may be StDeleted", memPlan, m, status == impl.StDeleted})
	}
	checkMemCases(t, list)
}

func TestMemOkEarliestNotTooLate(t *testing.T) {
	list := []memCase{}
	told := []int64{-1, 0, 1, 29, 30, 31, 39, 40, 41, 90, timeLimit}
	proc := func(name string, m impl.Mem, place int, right func(earliest int64) bool) {
		for _, earliest := range told {
			list = append(list, memCase{name, memPlan, edited(m, func(m *impl.Mem) { m.Procs[place].Earliest = earliest }), right(earliest)})
		}
	}
	whatever := func(int64) bool { return true }
	upTo := func(next int64) func(int64) bool {
		return func(earliest int64) bool { return earliest >= 0 && earliest <= next }
	}
	one := memOf(memPlan, 50, waiting(35, 1), turned(impl.StEarlier, 90, 30, 1))
	proc("one that is StEarlier", one, 1, upTo(30))
	proc("in another heap", one, 0, whatever)
	proc("in another heap", one, 2, whatever)
	two := memOf(memPlan, 50, turned(impl.StEarlier, 90, 40, 1), turned(impl.StEarlier, 90, 30, 1), turned(impl.StEarlier, 90, 0, 2))
	proc("two of them", two, 1, upTo(30))
	proc("the earlier one first", memOf(memPlan, 50, turned(impl.StEarlier, 90, 30, 1), turned(impl.StEarlier, 90, 40, 1)), 1, upTo(30))
	proc("at 0", two, 2, upTo(0))
	proc("no timer at all", memOf(memPlan, 50), 1, whatever)
	for _, status := range []int64{impl.StWaiting, impl.StModifying, impl.StLater, impl.StDeleted, impl.StRunning} {
		k := turned(status, 25, 30, 1)
		proc("none that is StEarlier", memOf(memPlan, 50, k), 1, whatever)
		if status != impl.StLater {
			k.Next = 5
			proc("none, though its Next is less", memOf(memPlan, 50, k, waiting(2, 1)), 1, whatever)
		}
	}
	checkMemCases(t, list)
}

// rightMems are memories that are right: by each plan, empty up to full, of each status, with clocks from 0 on.
func rightMems(t *testing.T) []memCase {
	t.Helper()
	r := rand.New(rand.NewSource(5))
	list := []memCase{{"full", memPlan, fullMem(), true}}
	for range 400 {
		p := impl.Plan{Procs: 1 + r.Int63n(procsLimit), Workers: 1 + r.Int63n(workersLimit), Timers: 1 + r.Int63n(timersLimit)}
		span := []int64{3, 20, timeLimit}[r.Intn(3)]
		timers := []impl.Timer{}
		for range r.Int63n(p.Timers + 1) {
			timers = append(timers, anyTimer(r, p, span))
		}
		m := memOf(p, min(r.Int63n(span+1), timeLimit-1), timers...)
		for i := range m.Procs {
			m.Procs[i].Lock = r.Int63n(p.Workers+1) - 1
			if x := &m.Procs[i]; x.Earliest > 0 && r.Intn(3) == 0 { // who was earliest may have been changed since
				x.Earliest = r.Int63n(x.Earliest)
			} else if x.Earliest < 0 && r.Intn(3) == 0 {
				x.Earliest = r.Int63n(span + 1)
			}
		}
		list = append(list, memCase{"any", p, m, true})
	}
	for _, c := range list {
		if !expectedMemOk(c.p, c.m) {
			t.Fatalf("%v is not right by %v", c.m, c.p)
		}
	}
	return list
}

func anyTimer(r *rand.Rand, p impl.Plan, span int64) impl.Timer {
	k := impl.Timer{Status: r.Int63n(statusesCount), When: r.Int63n(span + 1), Next: r.Int63n(span + 1), Period: r.Int63n(4), Gen: r.Int63n(9), Kind: r.Int63n(2), Mail: r.Int63n(3), Place: -1}
	if slices.Contains(inHeaps, k.Status) || k.Status == impl.StModifying && r.Intn(2) == 0 {
		k.Place = r.Int63n(p.Procs)
	}
	if k.Status == impl.StEarlier && k.Next >= k.When {
		k.When = k.Next + 1
		if k.When > timeLimit {
			k.When, k.Next = timeLimit, timeLimit-1
		}
	}
	if k.Status == impl.StLater && k.Next < k.When {
		k.Next = k.When
	}
	return k
}

// disturb changes one number somewhere, or how long a list is.
func disturb(r *rand.Rand, m *impl.Mem) {
	number := []int64{-1, 0, 1, 2, 3, r.Int63n(20), timeLimit - 1, timeLimit, timeLimit + 1}[r.Intn(9)]
	if len(m.Procs) == 0 {
		return
	}
	x := &m.Procs[r.Intn(len(m.Procs))]
	switch r.Intn(9) {
	case 0:
		m.Clock = number
	case 1:
		x.Lock = number
	case 2:
		x.Earliest = number
	case 3:
		x.Deleted = number
	case 4:
		m.Procs = m.Procs[:len(m.Procs)-r.Intn(2)]
	case 5:
		if len(x.Heap) > 0 {
			x.Heap = x.Heap[:len(x.Heap)-1]
		}
	case 6:
		if len(x.Heap) > 0 {
			s := &x.Heap[r.Intn(len(x.Heap))]
			*[]*int64{&s.Id, &s.Key}[r.Intn(2)] = number
		}
	case 7, 8:
		if len(m.Timers) > 0 {
			k := &m.Timers[r.Intn(len(m.Timers))]
			*[]*int64{&k.Status, &k.When, &k.Next, &k.Place}[r.Intn(4)] = number
		}
	}
}

// Of memories in which one thing or two were changed some are still right: whichever these are, all functions tell the same.
func TestMemoriesAsToldWhenDisturbed(t *testing.T) {
	r := rand.New(rand.NewSource(55))
	count := map[bool]int{}
	for _, c := range rightMems(t) {
		checkMemAnswers(t, c.p, c.m)
		for range 60 {
			m := clonedMem(c.m)
			for range 1 + r.Intn(2) {
				disturb(r, &m)
			}
			count[expectedMemOk(c.p, m)]++
			checkMemAnswers(t, c.p, m)
		}
	}
	if count[true] < 1000 || count[false] < 1000 {
		t.Error(count)
	}
}

// All memories with one timer or two, in which the first heap is any of these, of few numbers.
func TestMemoriesAsToldOfAllSmallOnes(t *testing.T) {
	p := impl.Plan{Procs: 2, Workers: 1, Timers: 2}
	timers := []impl.Timer{}
	for status := range int64(statusesCount) {
		for _, when := range []int64{0, 2} {
			for _, next := range []int64{1, 3} {
				for place := int64(-1); place <= 1; place++ {
					timers = append(timers, turned(status, when, next, place))
				}
			}
		}
	}
	heaps := [][]impl.Slot{nil, {{Id: 0, Key: 0}}, {{Id: 0, Key: 2}}, {{Id: 1, Key: 2}}, {{Id: 0, Key: 0}, {Id: 1, Key: 2}}, {{Id: 1, Key: 0}, {Id: 0, Key: 0}}, {{Id: 0, Key: 2}, {Id: 1, Key: 2}}}
	right := 0
	for i, a := range timers {
		for j := -1; j < len(timers); j++ {
			m := impl.Mem{Clock: int64(i+j+1) % 4, Timers: []impl.Timer{a}}
			if j >= 0 {
				m.Timers = append(m.Timers, timers[j])
			}
			for _, heap := range heaps {
				for earliest := int64(-1); earliest <= 2; earliest++ {
					for deleted := range int64(3) {
						m.Procs = []impl.Proc{{Heap: heap, Lock: -1, Earliest: earliest, Deleted: deleted}, idle(nil)}
						want := expectedMemOk(p, m)
						if want {
							right++
						}
						if impl.MemOk(p, m) != want || !slices.Equal(impl.DueIn(p, m), expectedDue(p, m)) || impl.WakeAll(p, m) != expectedWakeAll(p, m) {
							t.Fatalf("of %v: MemOk %v, DueIn %v, WakeAll %d", m, !want, impl.DueIn(p, m), impl.WakeAll(p, m))
						}
					}
				}
			}
		}
	}
	if right < 1000 {
		t.Error(right)
	}
}

func TestNewMem(t *testing.T) {
	for procs := int64(1); procs <= procsLimit; procs++ {
		for _, workers := range []int64{1, 3, workersLimit} {
			for _, timers := range []int64{1, 7, timersLimit} {
				p := impl.Plan{Procs: procs, Workers: workers, Timers: timers}
				m := impl.NewMem(p)
				if m.Clock != 0 || len(m.Timers) != 0 || int64(len(m.Procs)) != procs || !impl.MemOk(p, m) {
					t.Fatalf("NewMem(%v) is %v", p, m)
				}
				for _, x := range m.Procs {
					if !sameProc(x, impl.Proc{Lock: -1, Earliest: -1}) {
						t.Fatalf("NewMem(%v) is %v", p, m)
					}
				}
				if len(impl.DueIn(p, m)) != 0 || impl.WakeAll(p, m) != -1 {
					t.Fatalf("in NewMem(%v) something is to wake for", p)
				}
			}
		}
	}
	for _, base := range append([]impl.Plan{memPlan}, rightPlans...) {
		for _, p := range wrongPlans(base) {
			if m := impl.NewMem(p); !sameMem(m, impl.Mem{}) {
				t.Errorf("NewMem(%v) is %v", p, m)
			}
		}
	}
}

func TestElapsedOrdinaryAndAtTheLimits(t *testing.T) {
	const last = timeLimit - 1
	for _, c := range []struct{ clock, delay, want int64 }{
		{0, 0, 0}, {0, 1, 1}, {50, 7, 57}, {50, 0, 50}, {last, 0, last},
		{50, -1, 50}, {50, -60, 50}, {0, -1, 0}, {last, -1, last}, {50, math.MinInt64, 50}, {last, math.MinInt64, last}, {50, math.MinInt64 + 1, 50},
		{0, last - 1, last - 1}, {0, last, last}, {0, last + 1, last}, {0, last + 2, last},
		{50, last - 51, last - 1}, {50, last - 50, last}, {50, last - 49, last}, {50, last, last}, {50, timeLimit, last}, {50, timeLimit + 1, last},
		{last - 1, 0, last - 1}, {last - 1, 1, last}, {last - 1, 2, last}, {last, 1, last}, {last, 2, last}, {last, timeLimit, last},
		{0, math.MaxInt64, last}, {50, math.MaxInt64, last}, {last, math.MaxInt64, last}, {50, math.MaxInt64 - 49, last}, {50, 1 << 32, last},
	} {
		for _, m := range []impl.Mem{fullMem(), memOf(memPlan, 0)} {
			m.Clock = c.clock
			got := impl.Elapsed(memPlan, m, c.delay)
			m.Clock = c.want
			if !sameMem(got, m) || !impl.MemOk(memPlan, got) {
				t.Errorf("Elapsed at %d by %d is %v, not %v", c.clock, c.delay, got, m)
			}
		}
	}
}

func TestElapsedOfNoMemory(t *testing.T) {
	for _, delay := range []int64{math.MinInt64, -1, 0, 1, 5, timeLimit, math.MaxInt64} {
		for _, p := range wrongPlans(memPlan) {
			if got := impl.Elapsed(p, fullMem(), delay); !sameMem(got, impl.Mem{}) {
				t.Errorf("Elapsed by %v is %v", p, got)
			}
		}
		for _, m := range []impl.Mem{
			{}, {Clock: 5}, {Clock: 5, Timers: []impl.Timer{outside(impl.StNone, 2)}},
			edited(fullMem(), func(m *impl.Mem) { m.Clock = timeLimit }), edited(fullMem(), func(m *impl.Mem) { m.Clock = -1 }),
			edited(fullMem(), func(m *impl.Mem) { m.Procs = m.Procs[:2] }), edited(fullMem(), func(m *impl.Mem) { m.Procs[0].Deleted++ }),
		} {
			if got := impl.Elapsed(memPlan, m, delay); !sameMem(got, impl.Mem{}) {
				t.Errorf("Elapsed of %v is %v", m, got)
			}
		}
	}
}

// Of one timer, with the clock at 50: by each status, and with When and Next before it, at it and after it.
func TestDueInOneTimer(t *testing.T) {
	for _, c := range []struct {
		k   impl.Timer
		due bool
	}{
		{waiting(0, 1), true}, {waiting(49, 1), true}, {waiting(50, 1), true}, {waiting(51, 1), false}, {waiting(timeLimit, 1), false},
		{turned(impl.StWaiting, 50, 90, 1), true}, {turned(impl.StWaiting, 51, 0, 1), false}, // a Next that is no longer meant
		{turned(impl.StEarlier, 90, 49, 1), true}, {turned(impl.StEarlier, 90, 50, 1), true}, {turned(impl.StEarlier, 90, 51, 1), false},
		{turned(impl.StEarlier, 50, 49, 1), true}, {turned(impl.StEarlier, 51, 50, 1), true}, {turned(impl.StEarlier, 90, 0, 1), true},
		{turned(impl.StLater, 30, 49, 1), true}, {turned(impl.StLater, 30, 50, 1), true}, {turned(impl.StLater, 30, 51, 1), false},
		{turned(impl.StLater, 50, 50, 1), true}, {turned(impl.StLater, 50, 51, 1), false}, {turned(impl.StLater, 51, 51, 1), false}, {turned(impl.StLater, 0, timeLimit, 1), false},
		{turned(impl.StModifying, 30, 20, 1), false}, {outside(impl.StModifying, 30), false},
		{turned(impl.StDeleted, 30, 20, 1), false}, {turned(impl.StRunning, 30, 20, 1), false},
		{outside(impl.StNone, 30), false}, {outside(impl.StRemoved, 30), false}, {outside(impl.StNone, 0), false}, {outside(impl.StRemoved, 0), false},
	} {
		for at := range int64(3) { // where it stands among others
			timers := []impl.Timer{waiting(60, 1), waiting(70, 0)}
			timers = slices.Insert(timers, int(at), c.k)
			want := []int64{}
			if c.due {
				want = append(want, at)
			}
			if got := impl.DueIn(memPlan, memOf(memPlan, 50, timers...)); !slices.Equal(got, want) {
				t.Errorf("DueIn with %v at %d is %v", c.k, at, got)
			}
		}
	}
}

func TestDueInManyTimers(t *testing.T) {
	if got := impl.DueIn(memPlan, fullMem()); !slices.Equal(got, []int64{0, 2, 10}) {
		t.Error(got)
	}
	for clock, want := range map[int64][]int64{0: {}, 39: {}, 40: {0}, 45: {0, 2}, 51: {0, 2, 10, 12}, 60: {0, 1, 2, 10, 12}, 70: {0, 1, 2, 3, 10, 12}, timeLimit - 1: {0, 1, 2, 3, 10, 12}} {
		m := fullMem()
		m.Clock = clock
		if got := impl.DueIn(memPlan, m); !slices.Equal(got, want) {
			t.Errorf("DueIn at %d is %v", clock, got)
		}
	}
	// Rising by timer, not as the heaps have them.
	falling := []impl.Timer{}
	want := []int64{}
	p := rightPlans[2]
	for i := range int64(timersLimit) {
		falling, want = append(falling, waiting(100-i, (i*5)%p.Procs)), append(want, i)
	}
	if got := impl.DueIn(p, memOf(p, 100, falling...)); !slices.Equal(got, want) {
		t.Error(got)
	}
	if got := impl.DueIn(p, memOf(p, 99, falling...)); !slices.Equal(got, want[1:]) {
		t.Error(got)
	}
}

func TestWakeAllOrdinary(t *testing.T) {
	for _, c := range []struct {
		timers []impl.Timer
		want   int64
	}{
		{nil, -1}, {[]impl.Timer{outside(impl.StNone, 3), outside(impl.StRemoved, 3), outside(impl.StModifying, 3)}, -1},
		{[]impl.Timer{waiting(9, 0)}, 9}, {[]impl.Timer{waiting(9, 1)}, 9}, {[]impl.Timer{waiting(9, 2)}, 9}, {[]impl.Timer{waiting(0, 2)}, 0}, {[]impl.Timer{waiting(timeLimit, 1)}, timeLimit},
		{[]impl.Timer{waiting(9, 0), waiting(8, 2)}, 8}, {[]impl.Timer{waiting(8, 0), waiting(9, 2)}, 8}, {[]impl.Timer{waiting(9, 0), waiting(8, 1), waiting(7, 2)}, 7},
		{[]impl.Timer{waiting(9, 0), waiting(7, 1), waiting(8, 2)}, 7}, {[]impl.Timer{waiting(9, 1), waiting(9, 2)}, 9},
		{[]impl.Timer{waiting(9, 0), turned(impl.StEarlier, 90, 4, 0)}, 4}, {[]impl.Timer{waiting(9, 0), turned(impl.StEarlier, 90, 4, 2)}, 4},
		{[]impl.Timer{turned(impl.StEarlier, 90, 4, 0), waiting(9, 2)}, 4}, {[]impl.Timer{waiting(9, 0), turned(impl.StEarlier, 90, 12, 1)}, 9},
		{[]impl.Timer{turned(impl.StEarlier, 90, 12, 1), waiting(9, 2)}, 9}, {[]impl.Timer{turned(impl.StEarlier, 9, 0, 2)}, 0},
		{[]impl.Timer{turned(impl.StLater, 9, 40, 0), waiting(12, 1)}, 9},                                     // it is looked after when it was to be due
		{[]impl.Timer{turned(impl.StDeleted, 3, 0, 0), waiting(12, 1)}, 3},                                    // likewise
		{[]impl.Timer{turned(impl.StRunning, 5, 0, 1), turned(impl.StModifying, 4, 0, 2)}, 4},                 // and these
		{[]impl.Timer{turned(impl.StEarlier, 90, 12, 1), turned(impl.StEarlier, 80, 11, 2)}, 11},              // by Earliest alone
		{[]impl.Timer{turned(impl.StEarlier, 90, 11, 0), turned(impl.StEarlier, 80, 12, 1), {Place: -1}}, 11}, // likewise
	} {
		for _, clock := range []int64{0, 50, timeLimit - 1} {
			if got := impl.WakeAll(memPlan, memOf(memPlan, clock, c.timers...)); got != c.want {
				t.Errorf("WakeAll of %v is %d, not %d", c.timers, got, c.want)
			}
		}
	}
	for place := range 3 { // an Earliest that nothing is behind counts as well
		for _, earliest := range []int64{0, 4, 9, 12, timeLimit} {
			m := memOf(memPlan, 50)
			m.Procs[place].Earliest = earliest
			if got := impl.WakeAll(memPlan, m); got != earliest {
				t.Errorf("WakeAll of %v is %d", m, got)
			}
			m = memOf(memPlan, 50, waiting(9, 1))
			m.Procs[place].Earliest = earliest
			if got := impl.WakeAll(memPlan, m); got != min(earliest, 9) {
				t.Errorf("WakeAll of %v is %d", m, got)
			}
		}
	}
}

// -1 and nothing where it is not MemOk, though each part still has a slot, or something that is due.
func TestDueInAndWakeAllOfNoMemory(t *testing.T) {
	m := memOf(memPlan, 50, waiting(9, 0), waiting(60, 2))
	if len(impl.DueIn(memPlan, m)) != 1 || impl.WakeAll(memPlan, m) != 9 {
		t.Fatal(m)
	}
	for _, p := range wrongPlans(memPlan) {
		if got, wake := impl.DueIn(p, m), impl.WakeAll(p, m); len(got) != 0 || wake != -1 {
			t.Errorf("by %v: DueIn %v, WakeAll %d", p, got, wake)
		}
	}
	for name, edit := range map[string]func(m *impl.Mem){
		"Clock":           func(m *impl.Mem) { m.Clock = timeLimit },
		"a Proc less":     func(m *impl.Mem) { m.Procs = m.Procs[:2] },
		"a Proc more":     func(m *impl.Mem) { m.Procs = append(m.Procs, idle(nil)) },
		"no Procs":        func(m *impl.Mem) { m.Procs = nil },
		"too many timers": func(m *impl.Mem) { m.Timers = append(m.Timers, make([]impl.Timer, 20)...) },
		"a Lock":          func(m *impl.Mem) { m.Procs[1].Lock = 4 },
		"a Gen":           func(m *impl.Mem) { m.Timers[1].Gen = -1 },
		"a slot less":     func(m *impl.Mem) { m.Procs[2].Heap = nil },
		"Deleted":         func(m *impl.Mem) { m.Procs[0].Deleted = 1 },
	} {
		wrong := edited(m, edit)
		if got, wake := impl.DueIn(memPlan, wrong), impl.WakeAll(memPlan, wrong); len(got) != 0 || wake != -1 {
			t.Errorf("%s: DueIn %v, WakeAll %d", name, got, wake)
		}
	}
}

// Promise 5: whenever a timer is to be due, it is not before WakeAll tells; so who wakes then, and no earlier, misses none.
func TestPromise5NothingIsDueBeforeWakeAllTells(t *testing.T) {
	due := 0
	for _, c := range rightMems(t) {
		wake := impl.WakeAll(c.p, c.m)
		for i, k := range c.m.Timers {
			if at, is := effect(k); is && (wake < 0 || wake > at) {
				t.Fatalf("timer %d of %v is to be due at %d, WakeAll is %d", i, c.m, at, wake)
			}
		}
		early := edited(c.m, func(m *impl.Mem) { m.Clock = 0 })
		for _, clock := range []int64{0, 1, wake - 2, wake - 1, wake, wake + 1, wake + 15, c.m.Clock, timeLimit - 1} {
			if clock < 0 || clock >= timeLimit {
				continue
			}
			m := impl.Elapsed(c.p, early, clock)
			list := impl.DueIn(c.p, m)
			if m.Clock != clock || impl.WakeAll(c.p, m) != wake || len(list) > 0 && (wake < 0 || wake > clock) {
				t.Fatalf("at %d of %v %v are due, WakeAll is %d", m.Clock, c.m, list, impl.WakeAll(c.p, m))
			}
			if !slices.Equal(list, expectedDue(c.p, m)) {
				t.Fatalf("DueIn of %v is %v", m, list)
			}
			due += len(list)
		}
	}
	if due < 1000 {
		t.Errorf("only %d were due", due)
	}
}

// Promise 5: where no timer was turned, something is due from the time on that WakeAll tells, and nothing just before.
func TestPromise5WakeAllIsWhenTheFirstOneIsDue(t *testing.T) {
	r := rand.New(rand.NewSource(555))
	for range 300 {
		p := impl.Plan{Procs: 1 + r.Int63n(procsLimit), Workers: 2, Timers: timersLimit}
		timers := []impl.Timer{}
		for range 1 + r.Intn(timersLimit) {
			timers = append(timers, waiting(1+r.Int63n(50), r.Int63n(p.Procs)))
		}
		m := memOf(p, 0, timers...)
		wake := impl.WakeAll(p, m)
		if len(impl.DueIn(p, impl.Elapsed(p, m, wake-1))) != 0 || len(impl.DueIn(p, impl.Elapsed(p, m, wake))) == 0 {
			t.Fatalf("WakeAll of %v is %d", m, wake)
		}
	}
}

// Promise 5: as the clock goes on, who is due stays so.
func TestPromise5WhoIsDueStaysDue(t *testing.T) {
	for _, c := range rightMems(t) {
		before := impl.DueIn(c.p, c.m)
		m := c.m
		for _, delay := range []int64{-4, 0, 1, 2, 9, timeLimit / 3, timeLimit, math.MaxInt64} {
			m = impl.Elapsed(c.p, m, delay)
			now := impl.DueIn(c.p, m)
			for _, one := range before {
				if !slices.Contains(now, one) {
					t.Fatalf("timer %d of %v is due no longer", one, m)
				}
			}
			before = now
		}
	}
}

// sparedMem is a memory with spare room behind each list, and all of it, to see later whether it stayed.
func sparedMem(m impl.Mem) (impl.Mem, impl.Mem) {
	given, whole := m, clonedMem(m)
	for i := range whole.Procs {
		whole.Procs[i].Heap, _ = spared(whole.Procs[i].Heap)
	}
	for i := range int64(3) {
		whole.Timers = append(whole.Timers, impl.Timer{Status: 70 + i, When: -50 - i, Place: 90 + i})
		whole.Procs = append(whole.Procs, impl.Proc{Heap: keyed(70, 60), Lock: 70 + i, Earliest: -50 - i, Deleted: 90 + i})
	}
	given.Timers, given.Procs = whole.Timers[:len(m.Timers)], whole.Procs[:len(m.Procs)]
	return given, whole
}

// fullHeaps is all that there is, the room behind the slots too.
func fullHeaps(m impl.Mem) impl.Mem {
	m = impl.Mem{Clock: m.Clock, Timers: slices.Clone(m.Timers), Procs: slices.Clone(m.Procs)}
	for i := range m.Procs {
		heap := m.Procs[i].Heap
		m.Procs[i].Heap = slices.Clone(heap[:cap(heap)])
	}
	return m
}

// scribble writes into each list of an answer and into the room behind it.
func scribble(m impl.Mem) {
	for _, x := range m.Procs[:cap(m.Procs)] {
		heap := x.Heap[:cap(x.Heap)]
		for j := range heap {
			heap[j] = impl.Slot{Id: 4321, Key: 8765}
		}
	}
	procs := m.Procs[:cap(m.Procs)]
	for i := range procs {
		procs[i] = impl.Proc{Lock: 4321, Earliest: 8765, Deleted: 77}
	}
	timers := m.Timers[:cap(m.Timers)]
	for i := range timers {
		timers[i] = impl.Timer{Status: 4321, When: 8765}
	}
}

// checkMemAnswers sees that all functions answer as told, always the same, and that the argument stays, and what is behind it.
func checkMemAnswers(t *testing.T, p impl.Plan, m impl.Mem) {
	t.Helper()
	defer func() {
		if e := recover(); e != nil {
			t.Fatalf("panic at %v, %v: %v", p, m, e)
		}
	}()
	given, whole := sparedMem(m)
	before := fullHeaps(whole)
	wantOk, wantDue, wantWake := expectedMemOk(p, m), expectedDue(p, m), expectedWakeAll(p, m)
	for range 2 {
		if impl.MemOk(p, given) != wantOk {
			t.Fatalf("MemOk(%v, %v) is not %v", p, m, wantOk)
		}
		if got := impl.DueIn(p, given); !slices.Equal(got, wantDue) {
			t.Fatalf("DueIn(%v, %v) is %v, not %v", p, m, got, wantDue)
		}
		if got := impl.WakeAll(p, given); got != wantWake {
			t.Fatalf("WakeAll(%v, %v) is %d, not %d", p, m, got, wantWake)
		}
		for _, delay := range []int64{math.MinInt64, -1, 0, 1, 7, timeLimit - 1 - m.Clock, timeLimit, math.MaxInt64} {
			if got, want := impl.Elapsed(p, given, delay), expectedElapsed(p, m, delay); !sameMem(got, want) {
				t.Fatalf("Elapsed(%v, %v, %d) is %v, not %v", p, m, delay, got, want)
			}
		}
		if !sameMem(fullHeaps(whole), before) || !sameMem(given, m) {
			t.Fatalf("written into %v, or behind it: %v", m, whole)
		}
	}
}

// Promise 19: what Elapsed answers is new memory: to write into it, or into the argument, changes nothing in the other.
func TestPromise19ElapsedIsNewMemory(t *testing.T) {
	for _, c := range rightMems(t) {
		for _, delay := range []int64{-1, 0, 5, timeLimit} {
			given, whole := sparedMem(c.m)
			before := fullHeaps(whole)
			got, again := impl.Elapsed(c.p, given, delay), impl.Elapsed(c.p, given, delay)
			want := clonedMem(got)
			scribble(got)
			if !sameMem(fullHeaps(whole), before) || !sameMem(again, want) {
				t.Fatalf("the answer shares memory with %v, or with another answer", c.m)
			}
			scribble(whole)
			if !sameMem(again, want) {
				t.Fatalf("the answer shares memory with %v", c.m)
			}
			checkListsApart(t, again)
		}
	}
}

// Promise 19: likewise what NewMem answers, and no two lists of one answer share any.
func TestPromise19NewMemIsNewMemory(t *testing.T) {
	for _, p := range append([]impl.Plan{{}, memPlan}, rightPlans...) {
		got, again := impl.NewMem(p), impl.NewMem(p)
		want := clonedMem(again)
		scribble(got)
		if !sameMem(again, want) || !sameMem(impl.NewMem(p), want) {
			t.Fatalf("two answers of NewMem(%v) share memory", p)
		}
		checkListsApart(t, again)
	}
}

// checkListsApart writes into the heaps of a memory one after the other, each time with what is behind it, and behind that.
func checkListsApart(t *testing.T, m impl.Mem) {
	t.Helper()
	for i := range m.Procs {
		others := clonedMem(m)
		heap := m.Procs[i].Heap[:cap(m.Procs[i].Heap)]
		for j := range heap {
			heap[j] = impl.Slot{Id: 1000 + int64(i), Key: int64(j)}
		}
		m.Procs[i].Heap = append(m.Procs[i].Heap, impl.Slot{Id: 2000, Key: 2000})
		others.Procs[i] = m.Procs[i]
		if !sameMem(m, others) {
			t.Fatalf("the heap %d of %v is not its own", i, others)
		}
	}
}

// Promise 19: what DueIn answers is new as well.
func TestPromise19DueInIsNewMemory(t *testing.T) {
	m := fullMem()
	got, again := impl.DueIn(memPlan, m), impl.DueIn(memPlan, m)
	room := got[:cap(got)]
	for i := range room {
		room[i] = 99
	}
	if !slices.Equal(again, []int64{0, 2, 10}) || !slices.Equal(impl.DueIn(memPlan, m), again) || !sameMem(m, fullMem()) {
		t.Error(again)
	}
}

// Promise 19: every function answers at every argument and none panics: each number of a memory at each edge, and lists of any length.
func TestPromise19MemoriesAnswerEverywhere(t *testing.T) {
	wild := []impl.Plan{{}, {Procs: math.MaxInt64, Workers: math.MaxInt64, Timers: math.MaxInt64}, {Procs: math.MinInt64, Workers: 1, Timers: 1}, {Procs: 3, Workers: 4, Timers: math.MaxInt64}}
	lists := []impl.Mem{{}, {Timers: make([]impl.Timer, 3)}, {Procs: make([]impl.Proc, 3)}, {Timers: make([]impl.Timer, 3), Procs: make([]impl.Proc, 3)}, {Timers: make([]impl.Timer, 700), Procs: make([]impl.Proc, 700)}}
	for _, heap := range procHeaps() {
		lists = append(lists, impl.Mem{Procs: []impl.Proc{idle(heap), idle(heap), idle(heap)}}, impl.Mem{Timers: fullMem().Timers, Procs: []impl.Proc{idle(heap), idle(nil), idle(heap)}})
	}
	for _, p := range append(append(wild, memPlan), rightPlans...) {
		for _, m := range append(lists, fullMem()) {
			checkMemAnswers(t, p, m)
		}
		checkNewAnswers(t, p)
	}
	for _, n := range slices.Concat(edges, manyStatuses) {
		base := fullMem()
		checkMemAnswers(t, memPlan, edited(base, func(m *impl.Mem) { m.Clock = n }))
		for i := range base.Timers {
			for _, set := range []func(k *impl.Timer){func(k *impl.Timer) { k.Status = n }, func(k *impl.Timer) { k.Place = n }, func(k *impl.Timer) { k.When = n }, func(k *impl.Timer) { k.Next = n }} {
				checkMemAnswers(t, memPlan, edited(base, func(m *impl.Mem) { set(&m.Timers[i]) }))
			}
		}
		for i := range base.Procs {
			for _, f := range procFields {
				checkMemAnswers(t, memPlan, edited(base, func(m *impl.Mem) { f.set(&m.Procs[i], n) }))
			}
			for j := range base.Procs[i].Heap {
				checkMemAnswers(t, memPlan, edited(base, func(m *impl.Mem) { m.Procs[i].Heap[j].Id = n }))
				checkMemAnswers(t, memPlan, edited(base, func(m *impl.Mem) { m.Procs[i].Heap[j].Key = n }))
			}
		}
		if got, want := impl.Elapsed(memPlan, base, n), expectedElapsed(memPlan, base, n); !sameMem(got, want) {
			t.Fatalf("Elapsed by %d is %v", n, got)
		}
	}
}

func checkNewAnswers(t *testing.T, p impl.Plan) {
	t.Helper()
	defer func() {
		if e := recover(); e != nil {
			t.Fatalf("panic at %v: %v", p, e)
		}
	}()
	want := impl.Mem{}
	if impl.PlanOk(p) {
		want = memOf(p, 0)
	}
	if got := impl.NewMem(p); !sameMem(got, want) {
		t.Fatalf("NewMem(%v) is %v", p, got)
	}
}
