package tests

import (
	"math"
	"testing"

	"loop.example/g00743/impl"
)

// The limits are written out as the document has them: a wrong constant must not go unseen.
const (
	procsLimit   = 6
	workersLimit = 8
	timersLimit  = 30
	timeLimit    = 1000000000
)

func TestPlanLimits(t *testing.T) {
	if impl.MaxProcs != procsLimit || impl.MaxWorkers != workersLimit || impl.MaxTimers != timersLimit || impl.MaxTime != timeLimit {
		t.Fatal(impl.MaxProcs, impl.MaxWorkers, impl.MaxTimers, impl.MaxTime)
	}
}

func TestPlanOkOrdinary(t *testing.T) {
	for _, p := range []impl.Plan{{Procs: 2, Workers: 3, Timers: 10}, {Procs: 4, Workers: 1, Timers: 17}, {Procs: 3, Workers: 7, Timers: 2}} {
		if !impl.PlanOk(p) {
			t.Errorf("PlanOk(%v) is false", p)
		}
	}
}

// fieldLimits has, of each number of a plan, how it is set and its greatest value.
var fieldLimits = []struct {
	name string
	most int64
	set  func(p *impl.Plan, n int64)
}{
	{"Procs", procsLimit, func(p *impl.Plan, n int64) { p.Procs = n }},
	{"Workers", workersLimit, func(p *impl.Plan, n int64) { p.Workers = n }},
	{"Timers", timersLimit, func(p *impl.Plan, n int64) { p.Timers = n }},
}

// rightPlans: the least, an ordinary one and the greatest; each stays right when one number is set within its limits.
var rightPlans = []impl.Plan{
	{Procs: 1, Workers: 1, Timers: 1},
	{Procs: 2, Workers: 3, Timers: 4},
	{Procs: procsLimit, Workers: workersLimit, Timers: timersLimit},
}

func TestPlanOkAtEachLimit(t *testing.T) {
	for _, base := range rightPlans {
		for _, f := range fieldLimits {
			for n, want := range map[int64]bool{
				math.MinInt64: false, -f.most: false, -1: false, 0: false,
				1: true, 2: true, f.most - 1: true, f.most: true,
				f.most + 1: false, 1<<32 + 1: false, math.MaxInt64: false,
			} {
				p := base
				f.set(&p, n)
				if got := impl.PlanOk(p); got != want {
					t.Errorf("%s: PlanOk(%v) is %v", f.name, p, got)
				}
			}
		}
	}
}

func TestPlanOkOnlyWithinAllLimits(t *testing.T) {
	for procs := int64(-1); procs <= procsLimit+2; procs++ {
		for workers := int64(-1); workers <= workersLimit+2; workers++ {
			for timers := int64(-1); timers <= timersLimit+2; timers++ {
				p := impl.Plan{Procs: procs, Workers: workers, Timers: timers}
				want := procs > 0 && procs < 7 && workers > 0 && workers < 9 && timers > 0 && timers < 31
				if impl.PlanOk(p) != want {
					t.Fatalf("PlanOk(%v) is not %v", p, want)
				}
			}
		}
	}
}

func TestHomeOfOrdinary(t *testing.T) {
	for _, c := range []struct{ procs, workers, w, want int64 }{
		{2, 3, 0, 0}, {2, 3, 1, 1}, {2, 3, 2, 0},
		{3, 8, 4, 1}, {3, 8, 5, 2}, {3, 8, 6, 0}, {3, 8, 7, 1},
		{6, 8, 5, 5}, {6, 8, 6, 0}, {6, 8, 7, 1},
		{1, 8, 7, 0}, {6, 1, 0, 0}, {5, 4, 3, 3},
	} {
		p := impl.Plan{Procs: c.procs, Workers: c.workers, Timers: 10}
		if got := impl.HomeOf(p, c.w); got != c.want {
			t.Errorf("HomeOf(%v, %d) is %d, not %d", p, c.w, got, c.want)
		}
	}
}

// The workers are dealt out to the processors one after the other, which is counted here without a division.
func TestHomeOfEachWorkerOfEachPlan(t *testing.T) {
	for procs := int64(1); procs <= procsLimit; procs++ {
		for workers := int64(1); workers <= workersLimit; workers++ {
			for _, timers := range []int64{1, timersLimit} {
				p := impl.Plan{Procs: procs, Workers: workers, Timers: timers}
				home := int64(0)
				for w := range workers {
					if got := impl.HomeOf(p, w); got != home {
						t.Fatalf("HomeOf(%v, %d) is %d, not %d", p, w, got, home)
					}
					home++
					if home == procs {
						home = 0
					}
				}
			}
		}
	}
}

func TestHomeOfNoSuchWorker(t *testing.T) {
	for _, p := range rightPlans {
		if got := impl.HomeOf(p, p.Workers-1); got < 0 || got >= p.Procs {
			t.Errorf("HomeOf(%v, %d) is %d", p, p.Workers-1, got)
		}
		for _, w := range []int64{math.MinInt64, -p.Procs, -1, p.Workers, p.Workers + 1, 1 << 32, math.MaxInt64} {
			if got := impl.HomeOf(p, w); got != -1 {
				t.Errorf("HomeOf(%v, %d) is %d", p, w, got)
			}
		}
	}
}

func TestHomeOfPlanNotRight(t *testing.T) {
	for _, base := range rightPlans {
		for _, f := range fieldLimits {
			for _, n := range []int64{math.MinInt64, -1, 0, f.most + 1, math.MaxInt64} {
				p := base
				f.set(&p, n)
				for w := int64(-1); w <= workersLimit; w++ {
					if got := impl.HomeOf(p, w); got != -1 {
						t.Errorf("HomeOf(%v, %d) is %d", p, w, got)
					}
				}
			}
		}
	}
}

func TestAfterOrdinaryAndAtTheLimits(t *testing.T) {
	const M = timeLimit
	for _, c := range []struct{ time, delay, want int64 }{
		{0, 0, 0}, {0, 1, 1}, {5, 7, 12}, {100, 250, 350}, {1, 0, 1},
		{5, -1, 5}, {5, -7, 5}, {0, -1, 0}, {M, -1, M}, {5, math.MinInt64, 5}, {M, math.MinInt64, M},
		{0, M - 1, M - 1}, {0, M, M}, {0, M + 1, M}, {1, M - 2, M - 1}, {1, M - 1, M}, {1, M, M}, {7, 2 * M, M},
		{M - 1, 0, M - 1}, {M - 1, 1, M}, {M - 1, 2, M}, {M, 0, M}, {M, 1, M}, {M, M, M},
		{0, math.MaxInt64, M}, {1, math.MaxInt64, M}, {M, math.MaxInt64, M}, {7, math.MaxInt64 - 6, M}, {7, 1 << 32, M},
		{-1, 0, -1}, {-1, 1, -1}, {-1, 5, -1}, {-1, M, -1}, {-1, math.MinInt64, -1}, {-1, math.MaxInt64, -1},
		{M + 1, 0, -1}, {M + 1, -1, -1}, {M + 1, math.MinInt64, -1}, {M + 1, math.MaxInt64, -1},
		{math.MinInt64, 0, -1}, {math.MinInt64, math.MaxInt64, -1}, {math.MaxInt64, 0, -1}, {math.MaxInt64, math.MinInt64, -1},
	} {
		if got := impl.After(c.time, c.delay); got != c.want {
			t.Errorf("After(%d, %d) is %d, not %d", c.time, c.delay, got, c.want)
		}
	}
}

// Promise 1: nothing is later than MaxTime, nothing earlier than it was.
func TestPromise1NothingTooLateOrEarlier(t *testing.T) {
	for _, time := range edges {
		for _, delay := range edges {
			got := impl.After(time, delay)
			if time < 0 || time > timeLimit {
				if got != -1 {
					t.Errorf("After(%d, %d) is %d where there is no such time", time, delay, got)
				}
				continue
			}
			if got < time || got > timeLimit {
				t.Errorf("After(%d, %d) is %d", time, delay, got)
			}
			// Short of MaxTime it is as much later as was said, not less.
			if got < timeLimit && got-time != max(delay, 0) {
				t.Errorf("After(%d, %d) is %d", time, delay, got)
			}
		}
	}
}

// A longer delay is never due earlier.
func TestPromise1LaterForALongerDelay(t *testing.T) {
	for _, time := range edges {
		for i := 1; i < len(edges); i++ {
			if impl.After(time, edges[i-1]) > impl.After(time, edges[i]) {
				t.Errorf("After(%d, %d) is later than with %d", time, edges[i-1], edges[i])
			}
		}
	}
}

// edges rise; they are the limits of all that chapter 1 takes, each with its neighbours, and the ends of int64.
var edges = []int64{
	math.MinInt64, math.MinInt64 + 1, -timeLimit - 1, -timeLimit, -2, -1, 0, 1, 2, 3,
	5, 6, 7, 8, 9, 29, 30, 31, 123456, timeLimit/2 - 1, timeLimit / 2, timeLimit/2 + 1,
	timeLimit - 1, timeLimit, timeLimit + 1, 2 * timeLimit, 1<<31 - 1, 1 << 31, 1 << 32, 1<<32 + 1,
	math.MaxInt64 - timeLimit, math.MaxInt64 - 1, math.MaxInt64,
}

// Promise 19: every function answers at every argument, and none panics; the arguments stay.
func TestPromise19PlansAnswerEverywhere(t *testing.T) {
	for _, procs := range edges {
		for _, workers := range edges {
			for _, timers := range edges {
				p := impl.Plan{Procs: procs, Workers: workers, Timers: timers}
				checkPlanAnswers(t, p)
			}
		}
	}
}

func checkPlanAnswers(t *testing.T, p impl.Plan) {
	given := p
	w := int64(0)
	defer func() {
		if e := recover(); e != nil {
			t.Fatalf("panic at %v, worker %d: %v", p, w, e)
		}
	}()
	ok := impl.PlanOk(p)
	for _, w = range edges {
		home := impl.HomeOf(p, w)
		there := ok && w >= 0 && w < p.Workers
		if there && (home < 0 || home >= p.Procs) || !there && home != -1 {
			t.Fatalf("HomeOf(%v, %d) is %d", p, w, home)
		}
		if impl.HomeOf(p, w) != home {
			t.Fatalf("HomeOf(%v, %d) is not always %d", p, w, home)
		}
	}
	if impl.PlanOk(p) != ok || p != given {
		t.Fatalf("%v did not stay, or PlanOk is not always %v", given, ok)
	}
}

func TestPromise19AfterAnswersEverywhere(t *testing.T) {
	time, delay := int64(0), int64(0)
	defer func() {
		if e := recover(); e != nil {
			t.Fatalf("panic at After(%d, %d): %v", time, delay, e)
		}
	}()
	for _, time = range edges {
		for _, delay = range edges {
			got := impl.After(time, delay)
			if got < -1 || got > timeLimit || impl.After(time, delay) != got {
				t.Fatalf("After(%d, %d) is %d", time, delay, got)
			}
		}
	}
}
