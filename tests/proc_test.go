package tests

import (
	"math"
	"slices"
	"testing"

	"loop.example/g00743/impl"
)

// The document's own words, with the Ids counted, and what is a worker or a time written out.
func expectedProcOk(p impl.Plan, x impl.Proc) bool {
	if !impl.PlanOk(p) || !expectedOk(x.Heap) {
		return false
	}
	seen := map[int64]bool{}
	for _, s := range x.Heap {
		seen[s.Id] = true
	}
	worker := x.Lock >= 0 && x.Lock < p.Workers
	time := x.Earliest >= 0 && x.Earliest <= timeLimit
	return len(seen) == len(x.Heap) && (worker || x.Lock == -1) && (time || x.Earliest == -1) &&
		x.Deleted >= 0 && x.Deleted <= int64(len(x.Heap))
}

func expectedWake(x impl.Proc) int64 {
	if len(x.Heap) == 0 {
		if x.Earliest < 0 {
			return -1
		}
		return x.Earliest
	}
	if x.Earliest >= 0 && x.Earliest < x.Heap[0].Key {
		return x.Earliest
	}
	return x.Heap[0].Key
}

// idle is a processor of these slots that nobody holds, and in which nothing is earlier or deleted.
func idle(heap []impl.Slot) impl.Proc { return impl.Proc{Heap: heap, Lock: -1, Earliest: -1} }

// procFields has, of each number of a Proc, how it is set, the least that it may be, and the greatest.
var procFields = []struct {
	name  string
	least int64
	most  func(p impl.Plan, x impl.Proc) int64
	set   func(x *impl.Proc, n int64)
}{
	{"Lock", -1, func(p impl.Plan, _ impl.Proc) int64 { return p.Workers - 1 }, func(x *impl.Proc, n int64) { x.Lock = n }},
	{"Earliest", -1, func(impl.Plan, impl.Proc) int64 { return timeLimit }, func(x *impl.Proc, n int64) { x.Earliest = n }},
	{"Deleted", 0, func(_ impl.Plan, x impl.Proc) int64 { return int64(len(x.Heap)) }, func(x *impl.Proc, n int64) { x.Deleted = n }},
}

func TestProcOkOrdinary(t *testing.T) {
	p := impl.Plan{Procs: 2, Workers: 3, Timers: 4}
	two := []impl.Slot{{Id: 1, Key: 5}, {Id: 0, Key: 9}}
	for _, c := range []struct {
		x    impl.Proc
		want bool
	}{
		{impl.Proc{Lock: -1, Earliest: -1}, true},
		{impl.Proc{}, true}, // held by the worker 0, and something is earlier: at 0
		{impl.Proc{Heap: two, Lock: 2, Earliest: 7, Deleted: 1}, true},
		{impl.Proc{Heap: two, Lock: 0, Earliest: 100, Deleted: 2}, true}, // Earliest may be later than all Keys
		{impl.Proc{Heap: two, Lock: -1, Earliest: -1}, true},
		{impl.Proc{Heap: two, Lock: 3, Earliest: -1}, false},
		{impl.Proc{Heap: two, Lock: -2, Earliest: -1}, false},
		{impl.Proc{Heap: two, Lock: -1, Earliest: -2}, false},
		{impl.Proc{Heap: two, Lock: -1, Earliest: timeLimit + 1}, false},
		{impl.Proc{Heap: two, Lock: -1, Earliest: -1, Deleted: 3}, false},
		{impl.Proc{Heap: two, Lock: -1, Earliest: -1, Deleted: -1}, false},
		{impl.Proc{Lock: -1, Earliest: 8, Deleted: 1}, false}, // of no slots none is deleted
		{idle([]impl.Slot{{Id: 1, Key: 5}, {Id: 0, Key: 4}}), false},
		{idle([]impl.Slot{{Id: 1, Key: 5}, {Id: 1, Key: 5}}), false},
		{idle([]impl.Slot{{Id: 1, Key: 5}, {Id: 1, Key: 9}}), false}, // the same Id, though another Key
	} {
		if got := impl.ProcOk(p, c.x); got != c.want {
			t.Errorf("ProcOk(%v) is %v", c.x, got)
		}
	}
}

// Each number at its limits, in processors of no slots up to as many as there may be, while all else is right.
func TestProcOkEachNumberAtItsLimits(t *testing.T) {
	for _, p := range rightPlans {
		for _, count := range []int{0, 1, 2, 3, 7, timersLimit - 1, timersLimit} {
			for _, base := range []impl.Proc{idle(sameKeys(count, 5)), {Heap: sameKeys(count, 5), Deleted: int64(count)}} {
				for _, f := range procFields {
					most := f.most(p, base)
					for _, n := range slices.Concat(edges, []int64{f.least - 1, f.least, f.least + 1, most - 1, most, most + 1, most + 2}) {
						x := base
						f.set(&x, n)
						if got := impl.ProcOk(p, x); got != (n >= f.least && n <= most) {
							t.Errorf("%s: ProcOk(%v, %v) is %v", f.name, p, x, got)
						}
					}
				}
			}
		}
	}
}

// A Lock is a worker, not a processor: there may be more of either.
func TestProcOkLockIsAWorker(t *testing.T) {
	for procs := int64(1); procs <= procsLimit; procs++ {
		for workers := int64(1); workers <= workersLimit; workers++ {
			p := impl.Plan{Procs: procs, Workers: workers, Timers: 3}
			for holder := int64(-3); holder <= workersLimit+2; holder++ {
				want := holder >= -1 && holder < workers
				if got := impl.ProcOk(p, impl.Proc{Lock: holder, Earliest: -1}); got != want {
					t.Errorf("ProcOk(%v) with the Lock %d is %v", p, holder, got)
				}
			}
		}
	}
}

// A limit of slots is the heap's own, whatever number of timers the plan has.
func TestProcOkSlotsAtTheLimit(t *testing.T) {
	for _, p := range rightPlans {
		if !impl.ProcOk(p, idle(nil)) || !impl.ProcOk(p, idle([]impl.Slot{})) {
			t.Errorf("no slots are not right in %v", p)
		}
		for _, count := range []int{1, timersLimit - 1, timersLimit, timersLimit + 1, timersLimit + 2, 500} {
			for _, deleted := range []int64{0, 1} {
				x := idle(sameKeys(count, 5))
				x.Deleted = deleted
				if got := impl.ProcOk(p, x); got != (count <= timersLimit) {
					t.Errorf("ProcOk(%v) of %d slots is %v", p, count, got)
				}
			}
		}
	}
}

func TestProcOkHeapThatIsNone(t *testing.T) {
	p := rightPlans[1]
	for count := 2; count <= timersLimit; count++ {
		for i := 1; i < count; i++ {
			x := idle(sameKeys(count, 5))
			x.Heap[i].Key = 6
			if want := expectedOk(x.Heap); impl.ProcOk(p, x) != want {
				t.Fatalf("ProcOk(%v) is %v", x, !want)
			}
			x.Heap[i].Key = 4
			if impl.ProcOk(p, x) {
				t.Fatalf("ProcOk(%v) is true", x)
			}
		}
	}
}

// Of all lengths each two places: next to each other, first and last, and all others.
func TestProcOkOneIdTwice(t *testing.T) {
	p := rightPlans[1]
	for count := 2; count <= timersLimit; count++ {
		for i := range count {
			for j := i + 1; j < count; j++ {
				x := idle(sameKeys(count, 5))
				x.Heap[j].Id = x.Heap[i].Id
				if impl.ProcOk(p, x) {
					t.Fatalf("ProcOk with one Id at %d and %d: %v", i, j, x)
				}
				for _, own := range []int64{-1, math.MinInt64, math.MaxInt64, 1 << 32} {
					x.Heap[j].Id = own
					if !impl.ProcOk(p, x) {
						t.Fatalf("ProcOk with the Id %d at %d: %v", own, j, x)
					}
				}
			}
		}
	}
}

// What is no time, or no timer of the plan, can't be seen of it alone: that takes the Timers.
func TestProcOkOfAnyKeysAndIds(t *testing.T) {
	p := rightPlans[0]
	for _, heap := range [][]impl.Slot{
		{{Id: -5, Key: -5}}, {{Id: timersLimit + 1, Key: timeLimit + 1}},
		{{Id: math.MaxInt64, Key: math.MinInt64}, {Id: math.MinInt64, Key: math.MaxInt64}},
		{{Id: 1, Key: -1}, {Id: -1, Key: 0}, {Id: 0, Key: math.MaxInt64}},
	} {
		if !impl.ProcOk(p, idle(heap)) {
			t.Errorf("ProcOk of %v is false", heap)
		}
	}
}

func TestProcOkPlanNotRight(t *testing.T) {
	for _, base := range rightPlans {
		for _, f := range fieldLimits {
			for _, n := range []int64{math.MinInt64, -1, 0, f.most + 1, math.MaxInt64} {
				p := base
				f.set(&p, n)
				for _, x := range []impl.Proc{{}, idle(nil), idle(sameKeys(2, 5)), {Heap: sameKeys(3, 5), Earliest: 4, Deleted: 3}, {Lock: 1, Earliest: -1}} {
					if impl.ProcOk(p, x) {
						t.Errorf("ProcOk(%v, %v) is true", p, x)
					}
				}
			}
		}
	}
	if impl.ProcOk(impl.Plan{}, idle(nil)) || impl.ProcOk(impl.Plan{}, impl.Proc{}) {
		t.Error("the zero Plan has processors")
	}
}

// procHeaps are heaps and lists that are none, for whatever else a Proc has.
func procHeaps() [][]impl.Slot {
	twice := keyed(1, 2, 3, 4, 5, 6)
	twice[5].Id = 0
	return append(memoryLists(), twice, []impl.Slot{{Id: 3, Key: 5}, {Id: 3, Key: 5}}, keyed(4, 3, 2, 1), keyed(0, 0), keyed(-1), keyed(-7, -3, 5),
		keyed(timeLimit), keyed(timeLimit+1), keyed(math.MinInt64, 0, math.MaxInt64), keyed(math.MaxInt64, 0, math.MinInt64))
}

// mixedProcs are all mixtures of these heaps with numbers at and about each limit.
func mixedProcs(p impl.Plan) []impl.Proc {
	list := []impl.Proc{}
	for _, heap := range procHeaps() {
		count := int64(len(heap))
		for _, holder := range []int64{math.MinInt64, -2, -1, 0, p.Workers - 1, p.Workers, math.MaxInt64} {
			for _, earliest := range []int64{math.MinInt64, -2, -1, 0, 5, timeLimit, timeLimit + 1, math.MaxInt64} {
				for _, deleted := range []int64{math.MinInt64, -1, 0, count, count + 1, math.MaxInt64} {
					list = append(list, impl.Proc{Heap: heap, Lock: holder, Earliest: earliest, Deleted: deleted})
				}
			}
		}
	}
	return list
}

// Promise 4: which processors are right is what the document tells, of all mixtures.
func TestPromise4ProcsAsTold(t *testing.T) {
	right := 0
	for _, p := range append([]impl.Plan{{}, {Procs: 7, Workers: 3, Timers: 4}}, rightPlans...) {
		for _, x := range mixedProcs(p) {
			want := expectedProcOk(p, x)
			if got := impl.ProcOk(p, x); got != want {
				t.Fatalf("ProcOk(%v, %v) is %v", p, x, got)
			}
			if want {
				right++
			}
		}
	}
	if right == 0 {
		t.Error("no mixture was right")
	}
}

// Promise 4: a processor is to wake by its first slot and by what is earlier.
func TestPromise4WakeOfOrdinary(t *testing.T) {
	for _, c := range []struct {
		keys     []int64
		earliest int64
		want     int64
	}{
		{nil, -1, -1}, {nil, -2, -1}, {nil, -9, -1}, {nil, math.MinInt64, -1}, // nothing at all
		{nil, 0, 0}, {nil, 4, 4}, {nil, timeLimit, timeLimit}, {nil, math.MaxInt64, math.MaxInt64}, // only what is earlier
		{[]int64{5, 9}, -1, 5}, {[]int64{5, 9}, -2, 5}, {[]int64{5}, math.MinInt64, 5}, {[]int64{timeLimit}, -1, timeLimit}, // only slots
		{[]int64{5, 9}, 4, 4}, {[]int64{5, 9}, 5, 5}, {[]int64{5, 9}, 6, 5}, {[]int64{5, 9}, 9, 5}, {[]int64{5, 9}, 0, 0},
		{[]int64{5, 9}, timeLimit, 5}, {[]int64{5, 9}, math.MaxInt64, 5}, {[]int64{timeLimit}, timeLimit, timeLimit},
		{[]int64{0, 3}, -1, 0}, {[]int64{0, 3}, 0, 0}, {[]int64{0, 3}, 1, 0}, {[]int64{0, 3}, -2, 0},
		{[]int64{-1}, -1, -1}, {[]int64{-1}, 0, -1}, {[]int64{-5, 2}, -1, -5}, {[]int64{-5, 2}, -9, -5}, {[]int64{-5, 2}, 0, -5}, {[]int64{-5, 2}, 7, -5},
		{[]int64{math.MinInt64}, 0, math.MinInt64}, {[]int64{math.MinInt64}, -1, math.MinInt64},
		{[]int64{math.MaxInt64}, -1, math.MaxInt64}, {[]int64{math.MaxInt64}, math.MaxInt64, math.MaxInt64}, {[]int64{math.MaxInt64}, math.MaxInt64 - 1, math.MaxInt64 - 1},
	} {
		x := impl.Proc{Heap: keyed(c.keys...), Lock: -1, Earliest: c.earliest}
		if got := impl.WakeOf(x); got != c.want {
			t.Errorf("WakeOf(%v) is %d, not %d", x, got, c.want)
		}
	}
	if impl.WakeOf(impl.Proc{}) != 0 || impl.WakeOf(idle([]impl.Slot{})) != -1 {
		t.Error("of no slots")
	}
}

// Promise 4: of a list that is no heap it is the first slot as well, though another one has a lesser Key.
func TestPromise4WakeOfListThatIsNoHeap(t *testing.T) {
	for _, c := range []struct {
		keys     []int64
		earliest int64
		want     int64
	}{
		{[]int64{9, 5}, -1, 9}, {[]int64{9, 5}, 7, 7}, {[]int64{9, 5}, 9, 9}, {[]int64{9, 5}, 10, 9}, {[]int64{9, 5}, 3, 3},
		{[]int64{4, 3, 2, 1}, -1, 4}, {[]int64{4, 3, 2, -1}, 0, 0}, {[]int64{0, -1}, -1, 0}, {[]int64{3, math.MinInt64}, -1, 3},
	} {
		x := impl.Proc{Heap: keyed(c.keys...), Earliest: c.earliest}
		if got := impl.WakeOf(x); got != c.want {
			t.Errorf("WakeOf(%v) is %d, not %d", x, got, c.want)
		}
	}
	falling := idle(nil)
	for i := range int64(timersLimit + 5) {
		falling.Heap = append(falling.Heap, impl.Slot{Id: i, Key: 100 - i})
		if got := impl.WakeOf(falling); got != 100 {
			t.Errorf("WakeOf of %d falling Keys is %d", i+1, got)
		}
	}
}

// Promise 4: of a heap it is the least of all Keys and Earliest, and as the top is taken off it never comes back.
func TestPromise4WakeOfHeapAsItIsEmptied(t *testing.T) {
	for _, keys := range orders() {
		heap := heapOf(t, keys)
		for _, earliest := range []int64{-1, 0, 3, 7, timeLimit} {
			rest, before := heap, int64(math.MinInt64)
			for len(rest) > 0 {
				all := []int64{}
				for _, s := range rest {
					all = append(all, s.Key)
				}
				if earliest >= 0 {
					all = append(all, earliest)
				}
				got := impl.WakeOf(impl.Proc{Heap: rest, Lock: -1, Earliest: earliest})
				if got != slices.Min(all) || got < before {
					t.Fatalf("WakeOf of %v with Earliest %d is %d, %d before", rest, earliest, got, before)
				}
				before = got
				rest, _, _ = impl.PulledOff(rest, 0)
			}
			if got := impl.WakeOf(impl.Proc{Heap: rest, Lock: -1, Earliest: earliest}); got != earliest {
				t.Fatalf("WakeOf of the emptied heap with Earliest %d is %d", earliest, got)
			}
		}
	}
}

// Promise 4: nothing else counts: not the lock, nor how many are deleted, nor an Id, nor whether all of it is right.
func TestPromise4WakeOfAsTold(t *testing.T) {
	for _, x := range mixedProcs(rightPlans[1]) {
		if got := impl.WakeOf(x); got != expectedWake(x) {
			t.Fatalf("WakeOf(%v) is %d", x, got)
		}
	}
	for _, top := range edges {
		for _, earliest := range edges {
			x := impl.Proc{Heap: []impl.Slot{{Id: top, Key: top}}, Lock: earliest, Earliest: earliest, Deleted: top}
			if got := impl.WakeOf(x); got != expectedWake(x) {
				t.Fatalf("WakeOf(%v) is %d", x, got)
			}
		}
	}
}

// checkProcAnswers sees that both functions answer, always the same, and that the slots and what is behind them stay.
func checkProcAnswers(t *testing.T, p impl.Plan, x impl.Proc) {
	t.Helper()
	defer func() {
		if e := recover(); e != nil {
			t.Fatalf("panic at %v, %v: %v", p, x, e)
		}
	}()
	heap, whole := spared(x.Heap)
	before := slices.Clone(whole)
	given := x
	given.Heap = heap
	wantOk, wantWake := expectedProcOk(p, x), expectedWake(x)
	for range 2 {
		if impl.ProcOk(p, given) != wantOk || impl.WakeOf(given) != wantWake {
			t.Fatalf("ProcOk(%v, %v) is not %v, or WakeOf not %d", p, x, wantOk, wantWake)
		}
		if !slices.Equal(whole, before) {
			t.Fatalf("written into the slots of %v, or behind them: %v", x, whole)
		}
	}
	if len(given.Heap) != len(x.Heap) || given.Lock != x.Lock || given.Earliest != x.Earliest || given.Deleted != x.Deleted {
		t.Fatalf("%v did not stay: %v", x, given)
	}
}

// Promise 19: both functions answer at every argument and none panics; the arguments stay.
func TestPromise19ProcsAnswerEverywhere(t *testing.T) {
	wild := []impl.Plan{{}, {Procs: math.MaxInt64, Workers: math.MaxInt64, Timers: math.MaxInt64}, {Procs: math.MinInt64, Workers: 1, Timers: 1}, {Procs: 1, Workers: math.MinInt64, Timers: 1}}
	for _, p := range append(wild, rightPlans...) {
		for _, x := range mixedProcs(p) {
			checkProcAnswers(t, p, x)
		}
		for _, heap := range procHeaps() {
			for _, n := range edges {
				for _, f := range procFields {
					x := idle(heap)
					f.set(&x, n)
					checkProcAnswers(t, p, x)
				}
				checkProcAnswers(t, p, impl.Proc{Heap: heap, Lock: n, Earliest: n, Deleted: n})
				checkProcAnswers(t, p, idle(append(slices.Clone(heap), impl.Slot{Id: n, Key: n})))
				checkProcAnswers(t, p, idle(append([]impl.Slot{{Id: n, Key: n}}, heap...)))
			}
		}
	}
}
