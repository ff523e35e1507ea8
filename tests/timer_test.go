package tests

import (
	"math"
	"slices"
	"testing"

	"loop.example/g00743/impl"
)

// The limit and the numbers of the statuses are written out as the document has them, and so are the lists below.
const (
	genLimit      = 100000
	statusesCount = 8
)

func TestTimerConstants(t *testing.T) {
	got := []int64{impl.StNone, impl.StWaiting, impl.StModifying, impl.StEarlier, impl.StLater, impl.StDeleted, impl.StRunning, impl.StRemoved}
	for want, status := range got {
		if status != int64(want) {
			t.Errorf("the status that stands at %d is %d", want, status)
		}
	}
	if impl.KdMail != 0 || impl.KdFunc != 1 || impl.MaxGen != genLimit {
		t.Error(impl.KdMail, impl.KdFunc, impl.MaxGen)
	}
}

// manyStatuses are all statuses, their neighbours, and what is far outside.
var manyStatuses = []int64{
	math.MinInt64, math.MinInt64 + 1, -1 << 32, -8, -2, -1, 0, 1, 2, 3, 4, 5, 6, 7, 8, 9, 16, 64,
	1 << 8, 1<<8 + 1, 1 << 32, 1<<32 + 1, math.MaxInt64 - 1, math.MaxInt64,
}

func isStatus(status int64) bool { return status > -1 && status < statusesCount }

// becomes is the document's list, by its own words.
func becomes(a int64) []int64 {
	switch a {
	case impl.StNone, impl.StRemoved:
		return []int64{impl.StModifying}
	case impl.StWaiting:
		return []int64{impl.StModifying, impl.StRunning}
	case impl.StModifying:
		return []int64{impl.StWaiting, impl.StEarlier, impl.StLater, impl.StDeleted}
	case impl.StEarlier, impl.StLater:
		return []int64{impl.StModifying, impl.StWaiting}
	case impl.StDeleted:
		return []int64{impl.StModifying, impl.StRemoved}
	case impl.StRunning:
		return []int64{impl.StWaiting, impl.StNone}
	}
	return nil
}

var inHeaps = []int64{impl.StWaiting, impl.StEarlier, impl.StLater, impl.StDeleted, impl.StRunning}

func expectedTimerOk(p impl.Plan, k impl.Timer) bool {
	if !impl.PlanOk(p) || !isStatus(k.Status) {
		return false
	}
	for _, time := range []int64{k.When, k.Next, k.Period} {
		if time < 0 || time > timeLimit {
			return false
		}
	}
	if k.Gen < 0 || k.Gen > genLimit || k.Kind != 0 && k.Kind != 1 {
		return false
	}
	if k.Mail != 0 && (k.Mail-1 < 0 || k.Mail-1 > timeLimit) {
		return false
	}
	processor, none := k.Place >= 0 && k.Place < p.Procs, k.Place == -1
	switch k.Status {
	case impl.StNone, impl.StRemoved:
		return none
	case impl.StModifying:
		return processor || none
	case impl.StEarlier:
		return processor && k.Next < k.When
	case impl.StLater:
		return processor && !(k.Next < k.When)
	}
	return processor
}

func TestInHeap(t *testing.T) {
	for _, status := range manyStatuses {
		if got := impl.InHeap(status); got != slices.Contains(inHeaps, status) {
			t.Errorf("InHeap(%d) is %v", status, got)
		}
	}
	for _, status := range edges {
		if got := impl.InHeap(status); got != slices.Contains(inHeaps, status) {
			t.Errorf("InHeap(%d) is %v", status, got)
		}
	}
}

// Promise 3: statuses pass as they may, and not otherwise: each pair, itself to itself too.
func TestPromise3StatusesPassAsTold(t *testing.T) {
	for _, a := range manyStatuses {
		for _, b := range manyStatuses {
			if got := impl.Passes(a, b); got != slices.Contains(becomes(a), b) {
				t.Errorf("Passes(%d, %d) is %v", a, b, got)
			}
		}
	}
}

// Promise 3, by number: the rows are what may become, the columns what it may become.
func TestPromise3PassesTable(t *testing.T) {
	for a, row := range []string{
		"..y.....",
		"..y...y.",
		".y.yyy..",
		".yy.....",
		".yy.....",
		"..y....y",
		"yy......",
		"..y.....",
	} {
		for b, c := range row {
			if got := impl.Passes(int64(a), int64(b)); got != (c == 'y') {
				t.Errorf("Passes(%d, %d) is %v", a, b, got)
			}
		}
	}
}

// Promise 3: what is no status becomes none, and none becomes it.
func TestPromise3NoStatusPasses(t *testing.T) {
	for _, a := range slices.Concat(manyStatuses, edges) {
		if isStatus(a) {
			continue
		}
		for b := int64(-1); b <= statusesCount; b++ {
			if impl.Passes(a, b) || impl.Passes(b, a) || impl.Passes(a, a) {
				t.Errorf("%d passes to %d or back", a, b)
			}
		}
	}
}

// Promise 3: who leaves a heap leaves it by way of one that tidies up or rings, and who comes in comes by StModifying.
func TestPromise3InAndOutOfHeaps(t *testing.T) {
	for a := int64(0); a < statusesCount; a++ {
		for b := int64(0); b < statusesCount; b++ {
			if !impl.Passes(a, b) {
				continue
			}
			out := b == impl.StNone || b == impl.StRemoved
			if impl.InHeap(a) && out && a != impl.StRunning && a != impl.StDeleted {
				t.Errorf("%d leaves its heap as %d", a, b)
			}
			if !impl.InHeap(a) && impl.InHeap(b) && a != impl.StModifying {
				t.Errorf("%d comes into a heap as %d", a, b)
			}
		}
	}
}

func TestTimerOkOrdinary(t *testing.T) {
	p := impl.Plan{Procs: 3, Workers: 2, Timers: 5}
	for _, c := range []struct {
		k    impl.Timer
		want bool
	}{
		{impl.Timer{Place: -1}, true},
		{impl.Timer{}, false}, // it rang, and still has a Place
		{impl.Timer{Status: impl.StWaiting, When: 100, Period: 7, Place: 2, Gen: 3}, true},
		{impl.Timer{Status: impl.StWaiting, When: 100, Next: 200, Place: 2, Gen: 3, Kind: impl.KdFunc}, true},
		{impl.Timer{Status: impl.StModifying, When: 9, Place: -1, Mail: 10}, true},
		{impl.Timer{Status: impl.StModifying, When: 9, Place: 1, Mail: 10}, true},
		{impl.Timer{Status: impl.StEarlier, When: 9, Next: 8, Place: 1}, true},
		{impl.Timer{Status: impl.StEarlier, When: 8, Next: 9, Place: 1}, false},
		{impl.Timer{Status: impl.StLater, When: 8, Next: 9, Place: 1}, true},
		{impl.Timer{Status: impl.StLater, When: 9, Next: 8, Place: 1}, false},
		{impl.Timer{Status: impl.StDeleted, When: 9, Place: 0}, true},
		{impl.Timer{Status: impl.StRunning, When: 9, Place: 0}, true},
		{impl.Timer{Status: impl.StRemoved, When: 9, Place: -1}, true},
		{impl.Timer{Status: impl.StRemoved, When: 9, Place: 0}, false},
		{impl.Timer{Status: 8, Place: -1}, false},
		{impl.Timer{Status: 8, Place: 0}, false},
		{impl.Timer{Status: -1, Place: -1}, false},
	} {
		if got := impl.TimerOk(p, c.k); got != c.want {
			t.Errorf("TimerOk(%v) is %v", c.k, got)
		}
	}
}

// places are those of a plan, their neighbours, and what is far outside.
func places(p impl.Plan) []int64 {
	list := []int64{math.MinInt64, -1 << 32, -3, -2, -1, p.Procs, p.Procs + 1, 1 << 32, math.MaxInt64}
	for i := range max(p.Procs, 1) {
		list = append(list, i)
	}
	return list
}

func TestTimerOkPlaceOfEachStatus(t *testing.T) {
	for _, p := range rightPlans {
		for _, status := range manyStatuses {
			for _, place := range places(p) {
				k := impl.Timer{Status: status, When: 5, Place: place}
				if status == impl.StLater {
					k.Next = 5
				}
				none := status == impl.StNone || status == impl.StRemoved || status == impl.StModifying
				some := slices.Contains(inHeaps, status) || status == impl.StModifying
				want := place == -1 && none || place >= 0 && place < p.Procs && some
				if got := impl.TimerOk(p, k); got != want {
					t.Errorf("TimerOk(%v, %v) is %v", p, k, got)
				}
			}
		}
	}
}

// A Place where the timer of that status may stand.
func placeFor(status int64) int64 {
	if slices.Contains(inHeaps, status) {
		return 0
	}
	return -1
}

func TestTimerOkNextAndWhen(t *testing.T) {
	p := rightPlans[1]
	for status := int64(0); status < statusesCount; status++ {
		for _, when := range []int64{1, 2, 500, timeLimit - 1} {
			for next, side := range map[int64]int{when - 1: -1, when: 0, when + 1: 1, 0: -1, timeLimit: 1} {
				want := status != impl.StEarlier && status != impl.StLater ||
					status == impl.StEarlier && side < 0 || status == impl.StLater && side >= 0
				k := impl.Timer{Status: status, When: when, Next: next, Place: placeFor(status)}
				if got := impl.TimerOk(p, k); got != want {
					t.Errorf("TimerOk(%v) is %v", k, got)
				}
			}
		}
		for _, ends := range []int64{0, timeLimit} {
			k := impl.Timer{Status: status, When: ends, Next: ends, Place: placeFor(status)}
			if got := impl.TimerOk(p, k); got != (status != impl.StEarlier) {
				t.Errorf("TimerOk(%v) is %v", k, got)
			}
		}
	}
}

// timerFields has, of each number that only has limits, how it is set and its greatest value; 0 is the least of all.
var timerFields = []struct {
	name string
	most int64
	set  func(k *impl.Timer, n int64)
}{
	{"When", timeLimit, func(k *impl.Timer, n int64) { k.When = n }},
	{"Next", timeLimit, func(k *impl.Timer, n int64) { k.Next = n }},
	{"Period", timeLimit, func(k *impl.Timer, n int64) { k.Period = n }},
	{"Gen", genLimit, func(k *impl.Timer, n int64) { k.Gen = n }},
	{"Kind", 1, func(k *impl.Timer, n int64) { k.Kind = n }},
	{"Mail", timeLimit + 1, func(k *impl.Timer, n int64) { k.Mail = n }},
}

func TestTimerOkEachFieldAtItsLimits(t *testing.T) {
	for status := int64(0); status < statusesCount; status++ {
		for _, f := range timerFields {
			for n, within := range map[int64]bool{
				math.MinInt64: false, -f.most: false, -2: false, -1: false, 0: true, 1: true, f.most - 1: true, f.most: true,
				f.most + 1: false, f.most + 2: false, 1 << 32: false, 1<<32 + 1: false, math.MaxInt64: false,
			} {
				k := impl.Timer{Status: status, Place: placeFor(status)}
				dated := f.name == "When" || f.name == "Next"
				if status == impl.StEarlier && !dated {
					k.When = 1
				}
				f.set(&k, n)
				want := within
				if dated && status == impl.StEarlier {
					want = within && k.Next < k.When
				} else if dated && status == impl.StLater {
					want = within && k.Next >= k.When
				}
				if got := impl.TimerOk(rightPlans[1], k); got != want {
					t.Errorf("%s: TimerOk(%v) is %v", f.name, k, got)
				}
			}
		}
	}
}

func TestTimerOkPlanNotRight(t *testing.T) {
	for _, base := range rightPlans {
		for _, f := range fieldLimits {
			for _, n := range []int64{math.MinInt64, -1, 0, f.most + 1, math.MaxInt64} {
				p := base
				f.set(&p, n)
				for status := int64(0); status < statusesCount; status++ {
					for _, place := range []int64{-1, 0} {
						k := impl.Timer{Status: status, When: 5, Next: 6, Place: place}
						if status == impl.StEarlier {
							k.Next = 4
						}
						if impl.TimerOk(p, k) {
							t.Errorf("TimerOk(%v, %v) is true", p, k)
						}
					}
				}
			}
		}
	}
}

// Promise 3: what TimerOk takes is what the document tells, of all mixtures of numbers about the limits.
func TestPromise3TimersAsTold(t *testing.T) {
	p := impl.Plan{Procs: 2, Workers: 3, Timers: 4}
	times := []int64{-1, 0, 1, timeLimit - 1, timeLimit, timeLimit + 1}
	right := 0
	for status := int64(-1); status <= statusesCount; status++ {
		for place := int64(-2); place <= 2; place++ {
			for _, when := range times {
				for _, next := range times {
					for _, rest := range []impl.Timer{
						{}, {Period: timeLimit, Gen: genLimit, Kind: 1, Mail: timeLimit + 1}, {Period: -1}, {Period: timeLimit + 1},
						{Gen: -1}, {Gen: genLimit + 1}, {Kind: -1}, {Kind: 2}, {Mail: -1}, {Mail: 1}, {Mail: timeLimit + 2},
					} {
						k := rest
						k.Status, k.Place, k.When, k.Next = status, place, when, next
						want := expectedTimerOk(p, k)
						if got := impl.TimerOk(p, k); got != want {
							t.Fatalf("TimerOk(%v) is %v", k, got)
						}
						if want {
							right++
						}
					}
				}
			}
		}
	}
	if right == 0 {
		t.Error("no mixture was right")
	}
}

// Promise 19: every function answers at every argument, always the same, and none panics; the arguments stay.
func TestPromise19TimersAnswerEverywhere(t *testing.T) {
	plans := append([]impl.Plan{{}, {Procs: 7, Workers: 1, Timers: 1}, {Procs: math.MaxInt64, Workers: math.MaxInt64, Timers: math.MaxInt64}, {Procs: math.MinInt64, Workers: 1, Timers: 1}}, rightPlans...)
	for _, p := range plans {
		for _, n := range slices.Concat(edges, manyStatuses) {
			for status := int64(-1); status <= statusesCount; status++ {
				checkTimerAnswers(t, p, impl.Timer{Status: status, When: 5, Place: n})
				checkTimerAnswers(t, p, impl.Timer{Status: n, When: n, Next: status, Place: status, Gen: n})
				for _, f := range timerFields {
					k := impl.Timer{Status: status, Place: placeFor(status), When: 1}
					f.set(&k, n)
					checkTimerAnswers(t, p, k)
				}
			}
			checkTimerAnswers(t, p, impl.Timer{Status: n, When: n, Next: n, Period: n, Place: n, Gen: n, Kind: n, Mail: n})
		}
	}
}

func checkTimerAnswers(t *testing.T, p impl.Plan, k impl.Timer) {
	t.Helper()
	defer func() {
		if e := recover(); e != nil {
			t.Fatalf("panic at %v, %v: %v", p, k, e)
		}
	}()
	givenPlan, given := p, k
	ok := impl.TimerOk(p, k)
	if ok != expectedTimerOk(p, k) || impl.TimerOk(p, k) != ok {
		t.Fatalf("TimerOk(%v, %v) is %v, or not always", p, k, ok)
	}
	if p != givenPlan || k != given {
		t.Fatalf("%v or %v did not stay", givenPlan, given)
	}
}

func TestPromise19StatusesAnswerEverywhere(t *testing.T) {
	a, b := int64(0), int64(0)
	defer func() {
		if e := recover(); e != nil {
			t.Fatalf("panic at %d, %d: %v", a, b, e)
		}
	}()
	all := slices.Concat(edges, manyStatuses)
	for _, a = range all {
		for range 2 {
			if impl.InHeap(a) != slices.Contains(inHeaps, a) {
				t.Fatalf("InHeap(%d)", a)
			}
		}
		for _, b = range all {
			for range 2 {
				if impl.Passes(a, b) != slices.Contains(becomes(a), b) {
					t.Fatalf("Passes(%d, %d)", a, b)
				}
			}
		}
	}
}
