package tests

import (
	"math"
	"math/rand"
	"slices"
	"testing"

	"loop.example/g00743/impl"
)

// The document's own words, each slot by its place in the heap.
func expectedArmed(p impl.Plan, m impl.Mem, k int64, place int64) (impl.Mem, bool) {
	if !expectedMemOk(p, m) || k < 0 || k >= int64(len(m.Timers)) || place < 0 || place >= p.Procs {
		return impl.Mem{}, false
	}
	m = clonedMem(m)
	if m.Timers[k].Status != impl.StModifying || m.Timers[k].Place != -1 {
		return m, false
	}
	m.Timers[k].Status = impl.StWaiting
	m.Timers[k].Place = place
	heap := &m.Procs[place].Heap
	*heap, _ = expectedPushed(*heap, impl.Slot{Id: k, Key: m.Timers[k].When})
	return m, true
}

func expectedTidied(p impl.Plan, m impl.Mem, place int64) (impl.Mem, bool) {
	if !expectedMemOk(p, m) || place < 0 || place >= p.Procs {
		return impl.Mem{}, false
	}
	m = clonedMem(m)
	x := &m.Procs[place]
	for i := range int64(len(x.Heap)) {
		k := &m.Timers[x.Heap[i].Id]
		if !untidy(*k) {
			continue
		}
		rest, s, _ := expectedPulled(x.Heap, i)
		if k.Status == impl.StDeleted {
			k.Status, k.Place = impl.StRemoved, -1
			x.Heap, x.Deleted = rest, x.Deleted-1
			return m, true
		}
		k.Status, k.When = impl.StWaiting, k.Next
		x.Heap, _ = expectedPushed(rest, impl.Slot{Id: s.Id, Key: k.When})
		return m, true
	}
	x.Earliest = -1
	return m, false
}

func expectedRung(p impl.Plan, m impl.Mem, place int64) (impl.Mem, int64) {
	if !expectedMemOk(p, m) || place < 0 || place >= p.Procs {
		return impl.Mem{}, -1
	}
	m = clonedMem(m)
	if len(m.Procs[place].Heap) > 0 {
		top := m.Procs[place].Heap[0].Id
		if m.Timers[top].Status == impl.StWaiting && m.Timers[top].When <= m.Clock {
			m.Timers[top].Status = impl.StRunning
			return m, top
		}
	}
	return m, -1
}

// How far the clock is past a whole number of Periods tells how long it is to the next one.
func expectedAgain(k impl.Timer, clock int64) int64 {
	next := k.When + k.Period
	if clock > k.When {
		next = clock + k.Period - (clock-k.When)%k.Period
	}
	if next > timeLimit {
		return timeLimit
	}
	return next
}

func expectedRearmed(p impl.Plan, m impl.Mem, k int64) (impl.Mem, bool) {
	if !expectedMemOk(p, m) || k < 0 || k >= int64(len(m.Timers)) {
		return impl.Mem{}, false
	}
	m = clonedMem(m)
	one := &m.Timers[k]
	if one.Status != impl.StRunning {
		return m, false
	}
	heap := &m.Procs[one.Place].Heap
	rest, _, _ := expectedPulled(*heap, int64(slices.Index(idsOf(*heap), k)))
	if one.Period == 0 {
		one.Status, one.Place, *heap = impl.StNone, -1, rest
		return m, true
	}
	one.Status, one.When = impl.StWaiting, expectedAgain(*one, m.Clock)
	*heap, _ = expectedPushed(rest, impl.Slot{Id: k, Key: one.When})
	return m, true
}

func untidy(k impl.Timer) bool {
	return k.Status == impl.StDeleted || k.Status == impl.StEarlier || k.Status == impl.StLater
}

// tidyCall is a call of chapter 6; what it tells beside the memory is a number here, 1 for true and 0 for false.
type tidyCall struct {
	name string
	ask  func(p impl.Plan, m impl.Mem) (impl.Mem, int64)
	want func(p impl.Plan, m impl.Mem) (impl.Mem, int64)
	none int64 // what is told where an argument is not right
}

func told(m impl.Mem, is bool) (impl.Mem, int64) {
	if is {
		return m, 1
	}
	return m, 0
}

func tidyCalls(k int64, place int64) []tidyCall {
	return []tidyCall{
		{"Armed", func(p impl.Plan, m impl.Mem) (impl.Mem, int64) { return told(impl.Armed(p, m, k, place)) },
			func(p impl.Plan, m impl.Mem) (impl.Mem, int64) { return told(expectedArmed(p, m, k, place)) }, 0},
		{"Tidied", func(p impl.Plan, m impl.Mem) (impl.Mem, int64) { return told(impl.Tidied(p, m, place)) },
			func(p impl.Plan, m impl.Mem) (impl.Mem, int64) { return told(expectedTidied(p, m, place)) }, 0},
		{"RungAt", func(p impl.Plan, m impl.Mem) (impl.Mem, int64) { return impl.RungAt(p, m, place) },
			func(p impl.Plan, m impl.Mem) (impl.Mem, int64) { return expectedRung(p, m, place) }, -1},
		{"Rearmed", func(p impl.Plan, m impl.Mem) (impl.Mem, int64) { return told(impl.Rearmed(p, m, k)) },
			func(p impl.Plan, m impl.Mem) (impl.Mem, int64) { return told(expectedRearmed(p, m, k)) }, 0},
	}
}

// checkTidyAnswers sees that each function answers as told, always the same, and that the argument stays, and what is behind it.
func checkTidyAnswers(t *testing.T, p impl.Plan, m impl.Mem, k int64, place int64) {
	t.Helper()
	asked := ""
	defer func() {
		if e := recover(); e != nil {
			t.Fatalf("panic in %s of %v, %v, timer %d, processor %d: %v", asked, p, m, k, place, e)
		}
	}()
	given, whole := sparedMem(m)
	before := fullHeaps(whole)
	for _, c := range tidyCalls(k, place) {
		asked = c.name
		want, wantNumber := c.want(p, m)
		for range 2 {
			if got, number := c.ask(p, given); number != wantNumber || !sameMem(got, want) {
				t.Fatalf("%s of %v, %v, timer %d, processor %d is %v, %d, not %v, %d", c.name, p, m, k, place, got, number, want, wantNumber)
			}
			if !sameMem(fullHeaps(whole), before) || !sameMem(given, m) {
				t.Fatalf("%s wrote into %v, or behind it: %v", c.name, m, whole)
			}
		}
	}
}

// checkAllAnswers asks it for each timer and each processor, and for what is just beside them.
func checkAllAnswers(t *testing.T, p impl.Plan, m impl.Mem) {
	t.Helper()
	for i := int64(-1); i <= max(int64(len(m.Timers)), p.Procs); i++ {
		checkTidyAnswers(t, p, m, i, i)
		checkTidyAnswers(t, p, m, i, 0)
	}
}

// laidMem has one heap, whose slots stand in just this order of timers; who has no Place is in none.
func laidMem(t *testing.T, clock int64, timers []impl.Timer, order ...int64) impl.Mem {
	t.Helper()
	x := idle(nil)
	for _, id := range order {
		k := timers[id]
		x.Heap = append(x.Heap, impl.Slot{Id: id, Key: k.When})
		if k.Status == impl.StDeleted {
			x.Deleted++
		}
		if k.Status == impl.StEarlier && (x.Earliest < 0 || k.Next < x.Earliest) {
			x.Earliest = k.Next
		}
	}
	m := impl.Mem{Clock: clock, Timers: slices.Clone(timers), Procs: []impl.Proc{x}}
	if !expectedMemOk(tidyPlan, m) {
		t.Fatalf("%v is not right", m)
	}
	return m
}

var tidyPlan = impl.Plan{Procs: 1, Workers: 2, Timers: timersLimit}

// tenKeys are the Keys of a heap that has three layers: the slot 1 has all its children, the slot 2 only one.
var tenKeys = []int64{10, 20, 30, 25, 40, 21, 22, 23, 24, 31}

var tenOrder = []int64{0, 1, 2, 3, 4, 5, 6, 7, 8, 9}

// tenTimers wait at these Keys, but for one that stands in another way.
func tenTimers(i int64, edit func(k *impl.Timer)) []impl.Timer {
	list := []impl.Timer{}
	for _, key := range tenKeys {
		list = append(list, waiting(key, 0))
	}
	edit(&list[i])
	return list
}

// marked has in each field that nothing of this chapter changes a number of its own.
func marked(k impl.Timer) impl.Timer {
	k.Gen, k.Kind, k.Mail = 17, impl.KdFunc, 39
	return k
}

func TestArmedAtEachStatus(t *testing.T) {
	for status := range int64(statusesCount) {
		for _, place := range []int64{-1, 0, 1, 2} {
			k := marked(turned(status, 45, 60, place))
			k.Period = 7
			if status == impl.StEarlier {
				k.Next = 41
			}
			if !expectedTimerOk(memPlan, k) {
				continue
			}
			m := memOf(memPlan, 50, waiting(40, 0), k, waiting(60, 0), waiting(10, 2))
			for to := range int64(3) {
				got, is := impl.Armed(memPlan, m, 1, to)
				if status != impl.StModifying || place != -1 {
					if is || !sameMem(got, m) {
						t.Errorf("Armed of %v at %d is %v, %v", k, to, got, is)
					}
					continue
				}
				want := clonedMem(m)
				want.Timers[1].Status, want.Timers[1].Place = impl.StWaiting, to
				want.Procs[to].Heap = [][]impl.Slot{{{Id: 0, Key: 40}, {Id: 2, Key: 60}, {Id: 1, Key: 45}}, {{Id: 1, Key: 45}}, {{Id: 3, Key: 10}, {Id: 1, Key: 45}}}[to]
				if !is || !sameMem(got, want) {
					t.Errorf("Armed of %v at %d is %v, %v, not %v", k, to, got, is, want)
				}
			}
		}
	}
}

// Where the new one comes to, by its When: to the top, on its way there, or at the end.
func TestArmedWhereItComesTo(t *testing.T) {
	for _, c := range []struct {
		when  int64
		order []int64
		want  []int64
	}{
		{5, nil, []int64{10}}, {0, nil, []int64{10}}, {timeLimit, nil, []int64{10}},
		{5, []int64{0}, []int64{10, 0}}, {9, []int64{0}, []int64{10, 0}}, {10, []int64{0}, []int64{0, 10}}, {11, []int64{0}, []int64{0, 10}},
		{5, tenOrder, []int64{10, 1, 0, 3, 4, 5, 6, 7, 8, 9, 2}}, {10, tenOrder, []int64{0, 1, 10, 3, 4, 5, 6, 7, 8, 9, 2}},
		{29, tenOrder, []int64{0, 1, 10, 3, 4, 5, 6, 7, 8, 9, 2}}, {30, tenOrder, []int64{0, 1, 2, 3, 4, 5, 6, 7, 8, 9, 10}},
		{31, tenOrder, []int64{0, 1, 2, 3, 4, 5, 6, 7, 8, 9, 10}}, {timeLimit, tenOrder, []int64{0, 1, 2, 3, 4, 5, 6, 7, 8, 9, 10}},
		{21, tenOrder[:5], []int64{0, 10, 2, 3, 4, 1}}, // the Key of the slot 1 is 22 there
	} {
		for _, clock := range []int64{0, 50} { // who is due already is armed as well
			timers := append(tenTimers(1, func(k *impl.Timer) {
				if len(c.order) == 5 {
					k.When = 22
				}
			}), outside(impl.StModifying, c.when))
			for i := range timers[:10] {
				if !slices.Contains(c.order, int64(i)) {
					timers[i] = outside(impl.StNone, 3)
				}
			}
			got, is := impl.Armed(tidyPlan, laidMem(t, clock, timers, c.order...), 10, 0)
			timers[10] = waiting(c.when, 0)
			if want := laidMem(t, clock, timers, c.want...); !is || !sameMem(got, want) {
				t.Errorf("Armed with When %d among %v is %v, %v, not %v", c.when, c.order, got, is, want)
			}
		}
	}
}

// The last of as many timers as there may be comes in last: there is room in any heap.
func TestArmedAsManyAsThereMayBe(t *testing.T) {
	for _, base := range rightPlans {
		for place := range base.Procs {
			p := base
			p.Timers = timersLimit
			m := memOf(p, 9)
			for i := range int64(timersLimit) {
				m.Timers = append(m.Timers, outside(impl.StModifying, 100-i))
			}
			for i := range int64(timersLimit) {
				next, is := impl.Armed(p, m, i, place)
				if !is || len(next.Procs[place].Heap) != int(i)+1 || next.Procs[place].Heap[0] != (impl.Slot{Id: i, Key: 100 - i}) || !expectedMemOk(p, next) {
					t.Fatalf("Armed of timer %d at %d of %v is %v, %v", i, place, m, next, is)
				}
				m = next
			}
			if _, is := impl.Armed(p, m, 29, place); is {
				t.Error("it is armed twice")
			}
		}
	}
}

// With nothing to tidy Earliest is -1, whatever it was, and nothing else changes.
func TestTidiedNothing(t *testing.T) {
	still := []impl.Timer{waiting(40, 0), turned(impl.StModifying, 35, 5, 0), turned(impl.StRunning, 20, 70, 0), waiting(60, 2), outside(impl.StModifying, 3), outside(impl.StNone, 4), outside(impl.StRemoved, 5)}
	elsewhere := []impl.Timer{waiting(40, 1), turned(impl.StDeleted, 35, 5, 0), turned(impl.StEarlier, 20, 10, 0), turned(impl.StLater, 60, 70, 2), turned(impl.StDeleted, 2, 0, 2)}
	for _, earliest := range []int64{-1, 0, 4, 50, timeLimit} {
		for _, m := range []impl.Mem{memOf(memPlan, 50), memOf(memPlan, 50, still...), memOf(memPlan, 50, elsewhere...)} {
			for place := range int64(3) {
				if slices.ContainsFunc(m.Timers, func(k impl.Timer) bool { return k.Place == place && untidy(k) }) {
					continue
				}
				m = clonedMem(m)
				m.Procs[place].Earliest, m.Procs[place].Lock = earliest, 1
				got, is := impl.Tidied(memPlan, m, place)
				m.Procs[place].Earliest = -1
				if is || !sameMem(got, m) {
					t.Errorf("Tidied at %d is %v, %v, not %v", place, got, is, m)
				}
				if again, is := impl.Tidied(memPlan, got, place); is || !sameMem(again, got) {
					t.Errorf("Tidied at %d again is %v, %v", place, again, is)
				}
			}
		}
	}
}

// One that is to be tidied, in each slot of the heap; the order that comes of it is written out.
func TestTidiedOneInEachSlot(t *testing.T) {
	for _, c := range []struct {
		i      int64
		status int64
		next   int64
		want   []int64
	}{
		{0, impl.StDeleted, 0, []int64{1, 5, 2, 3, 4, 9, 6, 7, 8}},
		{1, impl.StDeleted, 0, []int64{0, 5, 2, 3, 4, 9, 6, 7, 8}},
		{2, impl.StDeleted, 90, []int64{0, 1, 9, 3, 4, 5, 6, 7, 8}},
		{5, impl.StDeleted, 0, []int64{0, 1, 2, 3, 4, 9, 6, 7, 8}},
		{9, impl.StDeleted, 0, []int64{0, 1, 2, 3, 4, 5, 6, 7, 8}},
		{0, impl.StEarlier, 9, []int64{0, 5, 1, 3, 4, 9, 6, 7, 8, 2}},
		{2, impl.StEarlier, 5, []int64{2, 1, 0, 3, 4, 5, 6, 7, 8, 9}},
		{2, impl.StEarlier, 10, []int64{0, 1, 2, 3, 4, 5, 6, 7, 8, 9}},
		{4, impl.StEarlier, 39, []int64{0, 1, 2, 3, 9, 5, 6, 7, 8, 4}}, // it comes below another slot
		{9, impl.StEarlier, 0, []int64{9, 1, 0, 3, 4, 5, 6, 7, 8, 2}},
		{9, impl.StEarlier, 30, []int64{0, 1, 2, 3, 4, 5, 6, 7, 8, 9}},
		{9, impl.StEarlier, 29, []int64{0, 1, 9, 3, 4, 5, 6, 7, 8, 2}},
		{0, impl.StLater, 10, []int64{0, 5, 1, 3, 4, 9, 6, 7, 8, 2}}, // its Next is its When, and still others stand elsewhere
		{0, impl.StLater, 20, []int64{1, 5, 0, 3, 4, 9, 6, 7, 8, 2}},
		{0, impl.StLater, 100, []int64{1, 5, 2, 3, 4, 9, 6, 7, 8, 0}},
		{1, impl.StLater, 20, []int64{0, 5, 1, 3, 4, 9, 6, 7, 8, 2}},
		{1, impl.StLater, timeLimit, []int64{0, 5, 2, 3, 4, 9, 6, 7, 8, 1}},
		{9, impl.StLater, 31, []int64{0, 1, 2, 3, 4, 5, 6, 7, 8, 9}},
		{9, impl.StLater, 100, []int64{0, 1, 2, 3, 4, 5, 6, 7, 8, 9}},
	} {
		timers := tenTimers(c.i, func(k *impl.Timer) { *k = marked(turned(c.status, k.When, c.next, 0)); k.Period = 7 })
		m := laidMem(t, 15, timers, tenOrder...)
		got, is := impl.Tidied(tidyPlan, m, 0)
		k := &timers[c.i]
		if c.status == impl.StDeleted {
			k.Status, k.Place = impl.StRemoved, -1
		} else {
			k.Status, k.When = impl.StWaiting, c.next
		}
		want := laidMem(t, 15, timers, c.want...)
		want.Procs[0].Earliest = m.Procs[0].Earliest // while something is tidied it stays
		if !is || !sameMem(got, want) {
			t.Errorf("Tidied with %v at %d is %v, %v, not %v", m.Timers[c.i], c.i, got, is, want)
		}
		last, is := impl.Tidied(tidyPlan, got, 0)
		want.Procs[0].Earliest = -1
		if is || !sameMem(last, want) {
			t.Errorf("Tidied then is %v, %v, not %v", last, is, want)
		}
	}
}

// The first one in the order of the slots is tidied: neither the one of the least Key nor that of the least Id, nor who is deleted before the others.
func TestTidiedTheFirstOfSeveral(t *testing.T) {
	timers := []impl.Timer{turned(impl.StLater, 25, 50, 0), waiting(20, 0), turned(impl.StEarlier, 40, 5, 0), waiting(10, 0), turned(impl.StDeleted, 30, 0, 0)}
	m := laidMem(t, 6, timers, 3, 1, 4, 0, 2)
	for i, c := range []struct {
		id    int64
		after impl.Timer
		order []int64
	}{
		{4, turned(impl.StRemoved, 30, 0, -1), []int64{3, 1, 2, 0}},
		{2, turned(impl.StWaiting, 5, 5, 0), []int64{2, 1, 0, 3}},
		{0, turned(impl.StWaiting, 50, 50, 0), []int64{2, 1, 3, 0}},
	} {
		got, is := impl.Tidied(tidyPlan, m, 0)
		timers[c.id] = c.after
		want := laidMem(t, 6, timers, c.order...)
		want.Procs[0].Earliest = 5
		if !is || !sameMem(got, want) {
			t.Fatalf("the call %d: %v, %v, not %v", i, got, is, want)
		}
		m = got
	}
	got, is := impl.Tidied(tidyPlan, m, 0)
	m.Procs[0].Earliest = -1
	if is || !sameMem(got, m) {
		t.Fatalf("in the end %v, %v, not %v", got, is, m)
	}
	// Each two of the slots, in each two ways: only the former one is tidied.
	turns := []impl.Timer{{Status: impl.StDeleted}, {Status: impl.StEarlier, Next: 3}, {Status: impl.StLater, Next: 80}}
	for i := range int64(10) {
		for j := i + 1; j < 10; j++ {
			for _, a := range turns {
				for _, b := range turns {
					list := tenTimers(i, func(k *impl.Timer) { *k = turned(a.Status, k.When, a.Next, 0) })
					list[j] = turned(b.Status, list[j].When, b.Next, 0)
					m := laidMem(t, 15, list, tenOrder...)
					got, is := impl.Tidied(tidyPlan, m, 0)
					if want, _ := expectedTidied(tidyPlan, m, 0); !is || !sameMem(got, want) || got.Timers[j] != list[j] || untidy(got.Timers[i]) {
						t.Fatalf("Tidied of %v is %v, %v", m, got, is)
					}
				}
			}
		}
	}
}

// As many as are deleted are taken out, one with each call, and Deleted tells how many are left.
func TestTidiedOfManyDeleted(t *testing.T) {
	for count := range int64(timersLimit + 1) {
		for _, rest := range []int64{0, 1, 5} {
			timers := []impl.Timer{}
			for i := range count {
				timers = append(timers, turned(impl.StDeleted, 100-i, 0, 1))
			}
			for i := range min(rest, timersLimit-count) {
				timers = append(timers, waiting(70+i, 1))
			}
			p := impl.Plan{Procs: 2, Workers: 1, Timers: timersLimit}
			m := memOf(p, 3, timers...)
			for left := count; left > 0; left-- {
				next, is := impl.Tidied(p, m, 1)
				if !is || next.Procs[1].Deleted != left-1 || len(next.Procs[1].Heap) != len(m.Procs[1].Heap)-1 || !expectedMemOk(p, next) {
					t.Fatalf("Tidied of %v is %v, %v", m, next, is)
				}
				m = next
			}
			if got, is := impl.Tidied(p, m, 1); is || !sameMem(got, m) || len(m.Procs[1].Heap) != len(timers)-int(count) {
				t.Fatalf("Tidied of %v is %v, %v", m, got, is)
			}
		}
	}
}

// The other processors stay as they are, though there is as much to tidy in these, and so does the lock.
func TestTidiedAndRungTouchNoOtherHeap(t *testing.T) {
	timers := []impl.Timer{}
	for place := range int64(3) {
		timers = append(timers, turned(impl.StEarlier, 40, 30, place), turned(impl.StDeleted, 35, 0, place), turned(impl.StLater, 45, 60, place), waiting(20, place))
	}
	m := memOf(memPlan, 50, timers...)
	for place := range int64(3) {
		m.Procs[place].Lock = place
	}
	for place := range int64(3) {
		tidied, is := impl.Tidied(memPlan, m, place)
		rung, which := impl.RungAt(memPlan, m, place)
		if !is || which != 4*place+3 {
			t.Fatalf("Tidied at %d: %v, RungAt: %d", place, is, which)
		}
		for i := range int64(12) {
			if (tidied.Timers[i] != m.Timers[i]) != (i == 4*place) || (rung.Timers[i] != m.Timers[i]) != (i == 4*place+3) {
				t.Errorf("at %d the timer %d: %v, %v", place, i, tidied.Timers[i], rung.Timers[i])
			}
		}
		for i := range int64(3) {
			if i != place && !sameProc(tidied.Procs[i], m.Procs[i]) || tidied.Procs[i].Lock != i || !sameProc(rung.Procs[i], m.Procs[i]) {
				t.Errorf("at %d the processor %d: %v, %v", place, i, tidied.Procs[i], rung.Procs[i])
			}
		}
	}
}

func TestRungAtEachStatusAtTheTop(t *testing.T) {
	for status := range int64(statusesCount) {
		for _, when := range []int64{0, 49, 50, 51, timeLimit} {
			for _, next := range []int64{0, 49, 50, 51, timeLimit} {
				for place := range int64(3) {
					k := marked(turned(status, when, next, place))
					if !expectedTimerOk(memPlan, k) {
						continue
					}
					// Another one waits below it, and elsewhere one is due.
					m := memOf(memPlan, 50, waiting(max(when, 50), place), waiting(30, (place+1)%3), k)
					x := &m.Procs[place]
					slices.SortFunc(x.Heap, func(a, b impl.Slot) int { return int(b.Id - a.Id) })
					x.Lock = 2
					got, which := impl.RungAt(memPlan, m, place)
					want, wantWhich := clonedMem(m), int64(-1)
					if status == impl.StWaiting && when <= 50 {
						want.Timers[2].Status, wantWhich = impl.StRunning, 2
					}
					if which != wantWhich || !sameMem(got, want) {
						t.Errorf("RungAt with %v at the top is %v, %d, not %v, %d", k, got, which, want, wantWhich)
					}
				}
			}
		}
	}
}

func TestRungAtByTheClock(t *testing.T) {
	for _, c := range []struct {
		clock int64
		when  int64
		want  int64
	}{
		{0, 0, 0}, {0, 1, -1}, {1, 0, 0}, {50, 49, 0}, {50, 50, 0}, {50, 51, -1}, {50, 0, 0}, {50, timeLimit, -1},
		{timeLimit - 1, timeLimit - 2, 0}, {timeLimit - 1, timeLimit - 1, 0}, {timeLimit - 1, timeLimit, -1}, {timeLimit - 1, 0, 0},
	} {
		for _, next := range []int64{0, c.when, timeLimit} { // a Next that is no longer meant
			m := laidMem(t, c.clock, []impl.Timer{turned(impl.StWaiting, c.when, next, 0)}, 0)
			got, which := impl.RungAt(tidyPlan, m, 0)
			if c.want == 0 {
				m.Timers[0].Status = impl.StRunning
			}
			if which != c.want || !sameMem(got, m) {
				t.Errorf("RungAt at %d with When %d is %v, %d, not %v, %d", c.clock, c.when, got, which, m, c.want)
			}
		}
	}
	for place := range int64(3) {
		m := memOf(memPlan, 50, waiting(4, (place+1)%3), outside(impl.StModifying, 5))
		m.Procs[place].Earliest = 7
		if got, which := impl.RungAt(memPlan, m, place); which != -1 || !sameMem(got, m) {
			t.Errorf("RungAt of an empty heap is %v, %d", got, which)
		}
	}
}

// Of several it is the one at the top, whatever its Id, and only that one; then it stands in the way of the others.
func TestRungAtOnlyTheTop(t *testing.T) {
	timers := []impl.Timer{waiting(20, 0), waiting(20, 0), waiting(10, 0), waiting(20, 0)}
	for _, order := range [][]int64{{2, 0, 1, 3}, {2, 3, 1, 0}} {
		m := laidMem(t, 25, timers, order...)
		got, which := impl.RungAt(tidyPlan, m, 0)
		m.Timers[2].Status = impl.StRunning
		if which != 2 || !sameMem(got, m) {
			t.Errorf("RungAt is %v, %d", got, which)
		}
		if again, which := impl.RungAt(tidyPlan, got, 0); which != -1 || !sameMem(again, got) {
			t.Errorf("RungAt again is %v, %d", again, which)
		}
	}
	timers[2].When = 20
	if _, which := impl.RungAt(tidyPlan, laidMem(t, 25, timers, 3, 0, 1, 2), 0); which != 3 {
		t.Errorf("RungAt of those of one Key is %d", which)
	}
}

func TestRearmedAtEachStatus(t *testing.T) {
	for status := range int64(statusesCount) {
		for place := int64(-1); place < 3; place++ {
			for _, period := range []int64{0, 1, 15, timeLimit} {
				k := marked(turned(status, 45, 60, place))
				k.Period = period
				if status == impl.StEarlier {
					k.Next = 41
				}
				if !expectedTimerOk(memPlan, k) {
					continue
				}
				m := memOf(memPlan, 50, waiting(40, 0), k, waiting(55, 0), waiting(10, 2))
				m.Procs[0].Lock, m.Procs[1].Earliest, m.Procs[2].Earliest = 2, 0, 3
				got, is := impl.Rearmed(memPlan, m, 1)
				if status != impl.StRunning {
					if is || !sameMem(got, m) {
						t.Errorf("Rearmed of %v is %v, %v", k, got, is)
					}
					continue
				}
				want := clonedMem(m)
				one, x := &want.Timers[1], &want.Procs[place]
				if period == 0 {
					one.Status, one.Place = impl.StNone, -1
					x.Heap = [][]impl.Slot{{{Id: 0, Key: 40}, {Id: 2, Key: 55}}, nil, {{Id: 3, Key: 10}}}[place]
				} else {
					one.Status, one.When = impl.StWaiting, map[int64]int64{1: 51, 15: 60, timeLimit: timeLimit}[period]
					s := impl.Slot{Id: 1, Key: one.When}
					x.Heap = [][]impl.Slot{{{Id: 0, Key: 40}, {Id: 2, Key: 55}, s}, {s}, {{Id: 3, Key: 10}, s}}[place]
				}
				if !is || !sameMem(got, want) {
					t.Errorf("Rearmed of %v is %v, %v, not %v", k, got, is, want)
				}
			}
		}
	}
}

// When it rings next, by the Clock: earlier than When, at it, later by whole numbers of Periods and less, and at the end of all time.
func TestRearmedWhen(t *testing.T) {
	const M = timeLimit
	for _, c := range []struct{ when, period, clock, want int64 }{
		{50, 1, 0, 51}, {50, 1, 49, 51}, {50, 1, 50, 51}, {50, 1, 51, 52}, {50, 1, 52, 53}, {50, 1, 1000, 1001}, {50, 1, M - 2, M - 1}, {50, 1, M - 1, M},
		{50, 10, 0, 60}, {50, 10, 39, 60}, {50, 10, 40, 60}, {50, 10, 41, 60}, {50, 10, 49, 60}, {50, 10, 50, 60}, {50, 10, 51, 60}, {50, 10, 59, 60},
		{50, 10, 60, 70}, {50, 10, 61, 70}, {50, 10, 69, 70}, {50, 10, 70, 80}, {50, 10, 99, 100}, {50, 10, 100, 110}, {50, 10, 101, 110},
		{100, 10, 50, 110}, {100, 10, 75, 110}, {100, 10, 89, 110}, {100, 10, 0, 110}, {100, 40, 61, 140}, {M, 40, 1, M}, {M - 40, 40, 1, M}, {M - 41, 40, 1, M - 1}, // once, however much earlier it is
		{0, 1, 0, 1}, {0, 7, 0, 7}, {0, 7, 6, 7}, {0, 7, 7, 14}, {0, 7, 8, 14}, {0, 7, 13, 14}, {0, 7, 14, 21},
		{0, M, 0, M}, {0, M, 1, M}, {0, M, M - 1, M}, {1, M, 0, M}, {1, M, 1, M}, {1, M, M - 1, M}, {M, M, 0, M}, {M, M, M - 1, M}, {M - 1, M, M - 1, M},
		{0, M - 1, 0, M - 1}, {0, M - 1, M - 2, M - 1}, {0, M - 1, M - 1, M}, {1, M - 1, 1, M}, {2, M - 1, 2, M}, {1, M - 2, 5, M - 1},
		{M - 10, 9, M - 10, M - 1}, {M - 10, 10, M - 10, M}, {M - 10, 11, M - 10, M}, {M - 10, 10, M - 20, M},
		{M - 10, 3, M - 2, M - 1}, {M - 10, 3, M - 1, M}, {M - 10, 5, M - 6, M - 5}, {M - 10, 5, M - 5, M}, {M - 10, 5, M - 1, M}, {M - 11, 5, M - 1, M},
		{M, 1, M - 1, M}, {M - 1, 1, M - 1, M}, {M - 1, 2, M - 1, M}, {M - 2, 1, M - 1, M}, {M - 2, 1, M - 2, M - 1},
	} {
		for _, next := range []int64{0, M} {
			k := marked(turned(impl.StRunning, c.when, next, 0))
			k.Period = c.period
			m := laidMem(t, c.clock, []impl.Timer{k}, 0)
			got, is := impl.Rearmed(tidyPlan, m, 0)
			k.Status, k.When = impl.StWaiting, c.want
			if want := laidMem(t, c.clock, []impl.Timer{k}, 0); !is || !sameMem(got, want) {
				t.Errorf("Rearmed with When %d, Period %d at %d is %v, %v, not %v", c.when, c.period, c.clock, got, is, want)
			}
			k.Status, k.When, k.Period = impl.StRunning, c.when, 0
			m = laidMem(t, c.clock, []impl.Timer{k}, 0)
			got, is = impl.Rearmed(tidyPlan, m, 0)
			k.Status, k.Place = impl.StNone, -1
			if want := laidMem(t, c.clock, []impl.Timer{k}); !is || !sameMem(got, want) {
				t.Errorf("Rearmed with When %d once at %d is %v, %v, not %v", c.when, c.clock, got, is, want)
			}
		}
	}
}

// One that rings, in some slot of the heap; the order that comes of it is written out.
func TestRearmedWhereItComesTo(t *testing.T) {
	for _, c := range []struct {
		i      int64
		period int64
		clock  int64
		want   []int64
	}{
		{0, 0, 10, []int64{1, 5, 2, 3, 4, 9, 6, 7, 8}},
		{1, 0, 10, []int64{0, 5, 2, 3, 4, 9, 6, 7, 8}},
		{2, 0, 99, []int64{0, 1, 9, 3, 4, 5, 6, 7, 8}},
		{9, 0, 10, []int64{0, 1, 2, 3, 4, 5, 6, 7, 8}},
		{0, 9, 10, []int64{0, 5, 1, 3, 4, 9, 6, 7, 8, 2}},   // to 19: it is at the top again
		{0, 10, 10, []int64{1, 5, 0, 3, 4, 9, 6, 7, 8, 2}},  // to 20: as early as another one
		{0, 10, 20, []int64{1, 5, 2, 3, 4, 9, 6, 7, 8, 0}},  // to 30
		{0, 10, 999, []int64{1, 5, 2, 3, 4, 9, 6, 7, 8, 0}}, // to 1000
		{1, 1, 0, []int64{0, 5, 1, 3, 4, 9, 6, 7, 8, 2}},    // to 21, though the clock is at 0
		{1, 1, 28, []int64{0, 5, 1, 3, 4, 9, 6, 7, 8, 2}},   // to 29
		{1, 1, 29, []int64{0, 5, 2, 3, 4, 9, 6, 7, 8, 1}},   // to 30
		{9, 1, 31, []int64{0, 1, 2, 3, 4, 5, 6, 7, 8, 9}},
	} {
		timers := tenTimers(c.i, func(k *impl.Timer) { k.Status, k.Period = impl.StRunning, c.period })
		m := laidMem(t, c.clock, timers, tenOrder...)
		got, is := impl.Rearmed(tidyPlan, m, c.i)
		k := &timers[c.i]
		if c.period == 0 {
			k.Status, k.Place = impl.StNone, -1
		} else {
			k.Status, k.When = impl.StWaiting, expectedAgain(*k, c.clock)
		}
		if want := laidMem(t, c.clock, timers, c.want...); !is || !sameMem(got, want) {
			t.Errorf("Rearmed of timer %d with Period %d at %d is %v, %v, not %v", c.i, c.period, c.clock, got, is, want)
		}
	}
}

// farIndexes are none, by however many timers or processors.
var farIndexes = []int64{math.MinInt64, math.MinInt64 + 1, -1 << 32, -2, -1, timersLimit, timersLimit + 1, 1 << 32, 1<<32 + 1, math.MaxInt64 - 1, math.MaxInt64}

// Where there is no such timer or processor, one answer is given: though the plan would have more timers, or there are more timers than processors.
func TestPromise19TidyingOfNoneSuch(t *testing.T) {
	p := impl.Plan{Procs: 2, Workers: 8, Timers: 14}
	timers := []impl.Timer{outside(impl.StModifying, 3), turned(impl.StRunning, 4, 0, 0), turned(impl.StDeleted, 5, 0, 1), waiting(1, 0), waiting(1, 1)}
	for count := range len(timers) + 1 {
		m := memOf(p, 50, timers[:count]...)
		for _, k := range slices.Concat(farIndexes, []int64{0, 1, 2, 3, 4, 5, 6, 13, 14}) {
			for _, place := range slices.Concat(farIndexes, []int64{0, 1, 2, 3, 4, 5, 6, 7, 8}) {
				noTimer, noProc := k < 0 || k >= int64(count), place < 0 || place >= 2
				for i, c := range tidyCalls(k, place) {
					got, number := c.ask(p, m)
					none := []bool{noTimer || noProc, noProc, noProc, noTimer}[i]
					if none != sameMem(got, impl.Mem{}) || none && number != c.none {
						t.Fatalf("%s with timer %d of %d, processor %d is %v, %d", c.name, k, count, place, got, number)
					}
				}
				checkTidyAnswers(t, p, m, k, place)
			}
		}
	}
}

// What is not MemOk: by the plan, by its lists, by one number.
func TestPromise19TidyingOfNoMemory(t *testing.T) {
	right := edited(fullMem(), func(m *impl.Mem) { m.Timers[9].Period = 4 })
	checkNone := func(p impl.Plan, m impl.Mem) {
		t.Helper()
		for _, k := range []int64{math.MinInt64, -1, 0, 4, 6, 9, 12, 13, math.MaxInt64} {
			for _, place := range []int64{math.MinInt64, -1, 0, 1, 2, 3, math.MaxInt64} {
				for _, c := range tidyCalls(k, place) {
					if got, number := c.ask(p, m); number != c.none || !sameMem(got, impl.Mem{}) {
						t.Fatalf("%s by %v of %v is %v, %d", c.name, p, m, got, number)
					}
				}
				checkTidyAnswers(t, p, m, k, place)
			}
		}
	}
	for _, p := range wrongPlans(memPlan) {
		checkNone(p, right)
		checkNone(p, impl.Mem{})
	}
	for _, edit := range []func(m *impl.Mem){
		func(m *impl.Mem) { *m = impl.Mem{} }, func(m *impl.Mem) { *m = impl.Mem{Clock: 50, Timers: m.Timers} }, func(m *impl.Mem) { *m = impl.Mem{Clock: 50, Procs: m.Procs} },
		func(m *impl.Mem) { m.Clock = timeLimit }, func(m *impl.Mem) { m.Clock = -1 }, func(m *impl.Mem) { m.Clock = math.MinInt64 }, func(m *impl.Mem) { m.Clock = math.MaxInt64 },
		func(m *impl.Mem) { m.Procs = m.Procs[:2] }, func(m *impl.Mem) { m.Procs = append(m.Procs, idle(nil)) }, func(m *impl.Mem) { m.Procs = nil },
		func(m *impl.Mem) { m.Timers = append(m.Timers, make([]impl.Timer, 20)...) }, func(m *impl.Mem) { m.Timers = m.Timers[:3] },
		func(m *impl.Mem) { m.Procs[0].Deleted++ }, func(m *impl.Mem) { m.Procs[1].Lock = 4 }, func(m *impl.Mem) { m.Procs[0].Earliest = 46 }, func(m *impl.Mem) { m.Procs[0].Earliest = -1 },
		func(m *impl.Mem) { m.Timers[0].When++ }, func(m *impl.Mem) { m.Timers[6].Place = 1 }, func(m *impl.Mem) { m.Timers[9].Period = -1 }, func(m *impl.Mem) { m.Timers[9].Period = timeLimit + 1 },
		func(m *impl.Mem) { m.Procs[2].Heap = nil }, func(m *impl.Mem) { m.Procs[1].Heap = []impl.Slot{{Id: 6, Key: 33}} }, func(m *impl.Mem) { slices.Reverse(m.Procs[0].Heap) },
		func(m *impl.Mem) { m.Procs[0].Heap[0].Id = math.MaxInt64 }, func(m *impl.Mem) { m.Procs[0].Heap[0].Id = -1 },
	} {
		checkNone(memPlan, edited(right, edit))
	}
	checkAllAnswers(t, memPlan, right)
}

// tidyMems are memories that are right, with Periods up to the greatest, and clocks before and after what is due.
func tidyMems(t *testing.T) []memCase {
	t.Helper()
	r := rand.New(rand.NewSource(6))
	list := []memCase{}
	for _, c := range rightMems(t) {
		m := clonedMem(c.m)
		for i := range m.Timers {
			m.Timers[i].Period = []int64{0, 1, 2, 3, 7, r.Int63n(timeLimit), timeLimit - 1, timeLimit}[r.Intn(8)]
		}
		list = append(list, memCase{c.name, c.p, m, true})
	}
	return list
}

func TestTidyingAsTold(t *testing.T) {
	r := rand.New(rand.NewSource(66))
	for _, c := range tidyMems(t) {
		checkAllAnswers(t, c.p, c.m)
		for range 12 {
			m := clonedMem(c.m)
			disturb(r, &m)
			for range 4 {
				checkTidyAnswers(t, c.p, m, r.Int63n(int64(len(m.Timers))+2)-1, r.Int63n(c.p.Procs+2)-1)
			}
		}
	}
}

// smallTimers are all ways of a timer, of few numbers, that are right in a heap or outside.
func smallTimers(times int64) []impl.Timer {
	list := []impl.Timer{}
	for status := range int64(statusesCount) {
		for when := range times {
			for next := range times {
				for _, place := range []int64{-1, 0} {
					k := turned(status, when, next, place)
					if !expectedTimerOk(tidyPlan, k) || next > 0 && status != impl.StEarlier && status != impl.StLater {
						continue
					}
					for period := range int64(3) {
						if period == 0 || status == impl.StRunning {
							k.Period = period
							list = append(list, k)
						}
					}
				}
			}
		}
	}
	return list
}

// All memories of one timer or two, and many of three, with the slots of one Key either way round.
func TestTidyingAsToldOfAllSmallOnes(t *testing.T) {
	check := func(clock int64, timers ...impl.Timer) {
		m := memOf(tidyPlan, clock, timers...)
		checkAllAnswers(t, tidyPlan, m)
		if heap := m.Procs[0].Heap; len(heap) > 1 {
			last := len(heap) - 1
			heap[1], heap[last] = heap[last], heap[1] // those below the top may stand in any order
			if heap[0].Key == heap[1].Key {
				heap[0], heap[1] = heap[1], heap[0]
			}
			checkAllAnswers(t, tidyPlan, m)
		}
	}
	r := rand.New(rand.NewSource(666))
	timers := smallTimers(3)
	for _, a := range timers {
		for clock := range int64(4) {
			check(clock, a)
		}
		for _, b := range timers {
			check(1, a, b)
		}
	}
	wider := smallTimers(6)
	for range 4000 {
		check(r.Int63n(6), wider[r.Intn(len(wider))], wider[r.Intn(len(wider))], wider[r.Intn(len(wider))])
	}
}

// Promise 6: what is tidied stays right, each status passes as it may, and Deleted and Earliest agree.
func TestPromise6StaysRight(t *testing.T) {
	changed := map[string]int{}
	for _, c := range tidyMems(t) {
		for k := range max(int64(len(c.m.Timers)), 1) {
			for place := range c.p.Procs {
				for _, call := range tidyCalls(k, place) {
					if len(c.m.Timers) == 0 && (call.name == "Armed" || call.name == "Rearmed") {
						continue
					}
					got, number := call.ask(c.p, c.m)
					if !impl.MemOk(c.p, got) || !expectedMemOk(c.p, got) || len(got.Timers) != len(c.m.Timers) {
						t.Fatalf("%s with timer %d, processor %d of %v is %v", call.name, k, place, c.m, got)
					}
					if number == call.none && call.name != "Tidied" && !sameMem(got, c.m) {
						t.Fatalf("%s with timer %d, processor %d of %v is %v, though nothing was to be done", call.name, k, place, c.m, got)
					}
					for i, after := range got.Timers {
						before := c.m.Timers[i]
						if before.Status != after.Status {
							changed[call.name]++
						} else if before != after {
							t.Fatalf("%s changed %v to %v", call.name, before, after)
						}
						if before.Status != after.Status && (number == call.none || !impl.Passes(before.Status, after.Status)) {
							t.Fatalf("%s made %v of %v, and told %d", call.name, after, before, number)
						}
					}
				}
			}
		}
	}
	for _, c := range tidyCalls(0, 0) {
		if changed[c.name] < 500 {
			t.Errorf("%s did something only %d times", c.name, changed[c.name])
		}
	}
}

// tidiedUp asks again and again until false, which is once more than there were timers to be tidied.
func tidiedUp(t *testing.T, p impl.Plan, m impl.Mem, place int64) impl.Mem {
	t.Helper()
	left := 0
	for _, k := range m.Timers {
		if k.Place == place && untidy(k) {
			left++
		}
	}
	for ; ; left-- {
		next, is := impl.Tidied(p, m, place)
		if is != (left > 0) || !expectedMemOk(p, next) {
			t.Fatalf("Tidied of %v with %d left is %v, %v", m, left, next, is)
		}
		m = next
		if !is {
			return m
		}
	}
}

// Promise 6: where nothing is left to tidy, the top is what is due first; and nothing came to be due at another time.
func TestPromise6TopIsDueFirst(t *testing.T) {
	for _, c := range tidyMems(t) {
		m := c.m
		for place := range c.p.Procs {
			m = tidiedUp(t, c.p, m, place)
			x := m.Procs[place]
			if x.Earliest != -1 || x.Deleted != 0 {
				t.Fatalf("%v is tidied", x)
			}
			for _, s := range x.Heap {
				k := m.Timers[s.Id]
				if untidy(k) || k.When != s.Key || k.When < m.Timers[x.Heap[0].Id].When {
					t.Fatalf("in %v there is %v", m, k)
				}
			}
			if len(x.Heap) > 0 && impl.WakeOf(x) != m.Timers[x.Heap[0].Id].When || len(x.Heap) == 0 && impl.WakeOf(x) != -1 {
				t.Fatalf("WakeOf(%v) is %d", x, impl.WakeOf(x))
			}
		}
		for i, before := range c.m.Timers {
			after := m.Timers[i]
			atBefore, isBefore := effect(before)
			at, is := effect(after)
			if at != atBefore || is != isBefore || before.Status == impl.StDeleted && (after.Status != impl.StRemoved || after.Place != -1) || before.Status != impl.StDeleted && after.Place != before.Place {
				t.Fatalf("%v came to be %v", before, after)
			}
			after.Status, after.When, after.Place = before.Status, before.When, before.Place
			if after != before {
				t.Fatalf("%v came to be %v", before, m.Timers[i])
			}
		}
		if !slices.Equal(impl.DueIn(c.p, m), impl.DueIn(c.p, c.m)) {
			t.Fatalf("of %v others are due than of %v", m, c.m)
		}
	}
}

// rungOut tidies a heap up and then rings the top as long as it is due, and sees that they ring in order, and not ahead of their time.
func rungOut(t *testing.T, p impl.Plan, m impl.Mem, place int64) (impl.Mem, []int64) {
	t.Helper()
	m = tidiedUp(t, p, m, place)
	rung, before := []int64{}, int64(0)
	for {
		ringing, k := impl.RungAt(p, m, place)
		if k < 0 {
			return m, rung
		}
		if when := m.Timers[k].When; when > m.Clock || when < before || m.Timers[k].Place != place {
			t.Fatalf("of %v rings %d after one of %d", m, k, before)
		}
		rung, before = append(rung, k), m.Timers[k].When
		again, is := impl.Rearmed(p, ringing, k)
		if !is || !expectedMemOk(p, again) || again.Timers[k].Period > 0 && again.Timers[k].When <= m.Clock {
			t.Fatalf("Rearmed of %v is %v, %v", ringing, again, is)
		}
		m = again
	}
}

// unheld is without those in heaps that are held by another one, for these stand in the way.
func unheld(m impl.Mem) impl.Mem {
	m = clonedMem(m)
	for i := range m.Timers {
		if k := &m.Timers[i]; k.Place >= 0 && (k.Status == impl.StModifying || k.Status == impl.StRunning) {
			k.Status = impl.StWaiting
		}
	}
	return m
}

// Promise 6: who tidies a heap up and then rings the top as long as it is due rings all that is due there, in order, once, and nothing else.
func TestPromise6AllThatIsDueRingsInOrder(t *testing.T) {
	rings := 0
	for _, c := range tidyMems(t) {
		m := unheld(c.m)
		due, rung := impl.DueIn(c.p, m), []int64{}
		for place := range c.p.Procs {
			next, there := rungOut(t, c.p, m, place)
			m, rung = next, append(rung, there...)
		}
		rings += len(rung)
		slices.Sort(rung)
		if !slices.Equal(rung, due) || len(impl.DueIn(c.p, m)) != 0 {
			t.Fatalf("of %v there rang %v, though %v were due", c.m, rung, due)
		}
	}
	if rings < 500 {
		t.Errorf("only %d rang", rings)
	}
}

// Promise 6: what is armed waits in its heap until it is due, and rings then.
func TestPromise6WhoIsArmedIsDueAtItsWhen(t *testing.T) {
	for _, when := range []int64{0, 5, 49, 50, 51, 70, timeLimit - 1} {
		for place := range int64(3) {
			m, is := impl.Armed(memPlan, memOf(memPlan, 0, waiting(timeLimit, place), outside(impl.StModifying, when)), 1, place)
			if !is || impl.WakeAll(memPlan, m) != when {
				t.Fatalf("%v, %v is to wake at %d", m, is, impl.WakeAll(memPlan, m))
			}
			if when > 0 {
				if _, k := impl.RungAt(memPlan, impl.Elapsed(memPlan, m, when-1), place); k != -1 {
					t.Errorf("%d rings ahead of %d", k, when)
				}
			}
			if _, k := impl.RungAt(memPlan, impl.Elapsed(memPlan, m, when), place); k != 1 {
				t.Errorf("%d rings at %d", k, when)
			}
		}
	}
}

// Promise 19: what is answered is new memory, also where nothing was to be done: to write into it, or into the argument, changes nothing in the other, nor in another list of it.
func TestPromise19TidyingIsNewMemory(t *testing.T) {
	for _, c := range append(tidyMems(t), memCase{"no memory", memPlan, edited(fullMem(), func(m *impl.Mem) { m.Clock = -1 }), false}) {
		for k := range int64(len(c.m.Timers)) + 1 {
			for _, call := range tidyCalls(k, k%c.p.Procs) {
				given, whole := sparedMem(c.m)
				before := fullHeaps(whole)
				got, _ := call.ask(c.p, given)
				again, _ := call.ask(c.p, given)
				want := clonedMem(got)
				scribble(got)
				if !sameMem(fullHeaps(whole), before) || !sameMem(given, c.m) || !sameMem(again, want) {
					t.Fatalf("the answer of %s shares memory with %v, or with another answer", call.name, c.m)
				}
				scribble(whole)
				if !sameMem(again, want) {
					t.Fatalf("the answer of %s shares memory with %v", call.name, c.m)
				}
				checkListsApart(t, again)
			}
		}
	}
}

// Promise 19: every function answers at every argument and none panics: each number at each edge, and lists of any length.
func TestPromise19TidyingAnswersEverywhere(t *testing.T) {
	for _, n := range slices.Concat(edges, manyStatuses) {
		for _, other := range []int64{-1, 0, 2, n} {
			checkTidyAnswers(t, memPlan, fullMem(), n, other)
			checkTidyAnswers(t, memPlan, fullMem(), other, n)
			checkTidyAnswers(t, memPlan, impl.Mem{}, n, other)
			checkTidyAnswers(t, impl.Plan{}, fullMem(), n, other)
			checkTidyAnswers(t, impl.Plan{Procs: n, Workers: n, Timers: n}, fullMem(), n, other)
		}
		checkTidyAnswers(t, memPlan, edited(fullMem(), func(m *impl.Mem) { m.Clock = n }), 9, 2)
		for i := range fullMem().Timers {
			for _, set := range []func(k *impl.Timer){func(k *impl.Timer) { k.Status = n }, func(k *impl.Timer) { k.Place = n }, func(k *impl.Timer) { k.When = n }, func(k *impl.Timer) { k.Next = n }, func(k *impl.Timer) { k.Period = n }} {
				m := edited(fullMem(), func(m *impl.Mem) { set(&m.Timers[i]) })
				for place := range int64(3) {
					checkTidyAnswers(t, memPlan, m, int64(i), place)
				}
			}
		}
		for i := range fullMem().Procs {
			for _, f := range procFields {
				checkTidyAnswers(t, memPlan, edited(fullMem(), func(m *impl.Mem) { f.set(&m.Procs[i], n) }), 6, int64(i))
			}
			for j := range fullMem().Procs[i].Heap {
				checkTidyAnswers(t, memPlan, edited(fullMem(), func(m *impl.Mem) { m.Procs[i].Heap[j].Id = n }), n, int64(i))
				checkTidyAnswers(t, memPlan, edited(fullMem(), func(m *impl.Mem) { m.Procs[i].Heap[j].Key = n }), 9, int64(i))
			}
		}
	}
	for _, heap := range procHeaps() {
		m := impl.Mem{Timers: fullMem().Timers, Procs: []impl.Proc{idle(heap), idle(nil), idle(heap)}}
		for k := int64(-1); k <= 14; k++ {
			checkTidyAnswers(t, memPlan, m, k, k)
			checkTidyAnswers(t, memPlan, impl.Mem{Procs: m.Procs}, k, k)
		}
	}
	for _, p := range rightPlans {
		for _, count := range []int{0, 1, 3, 700} {
			checkAllAnswers(t, p, impl.Mem{Timers: make([]impl.Timer, min(count, 3)), Procs: make([]impl.Proc, count)})
			checkTidyAnswers(t, p, impl.Mem{Timers: make([]impl.Timer, count), Procs: make([]impl.Proc, count)}, 0, 0)
		}
	}
}
