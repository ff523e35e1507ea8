package tests

import (
	"math"
	"slices"
	"testing"

	"loop.example/g00743/impl"
)

// What the tests of all chapters of steps see alike.

type stepFunc func(p impl.Plan, m impl.Mem, w int64, h impl.Hand) (impl.Done, bool)

// A stepper is one of the program's functions that make a step, and a second rendering of the document's table for it.
type stepper struct {
	name string
	step stepFunc
	told stepFunc
}

// The document's own words; that the Timer is not below -1 is told by the hand.
func expectedFit(p impl.Plan, m impl.Mem, w int64, h impl.Hand) bool {
	switch {
	case !expectedMemOk(p, m), !expectedHandOk(p, h), w < 0, w >= p.Workers:
		return false
	}
	return h.Timer == -1 || int(h.Timer) < len(m.Timers)
}

func sameDone(a impl.Done, b impl.Done) bool {
	return sameMem(a.Mem, b.Mem) && a.Hand == b.Hand && a.Ev == b.Ev
}

// check sees that a step is just this one, and that the memory stays.
func (s stepper) check(t *testing.T, p impl.Plan, m impl.Mem, w int64, h impl.Hand, want impl.Done) {
	t.Helper()
	given := clonedMem(m)
	if got, is := s.step(p, m, w, h); !is || !sameDone(got, want) {
		t.Errorf("%s(%v, %v, %d, %+v) is %+v, %v, not %+v", s.name, p, m, w, h, got, is, want)
	}
	if !sameMem(m, given) {
		t.Errorf("%v came to be %v", given, m)
	}
}

func (s stepper) checkRefused(t *testing.T, p impl.Plan, m impl.Mem, w int64, h impl.Hand) {
	t.Helper()
	if got, is := s.step(p, m, w, h); is || !sameDone(got, impl.Done{}) {
		t.Errorf("%s(%v, %v, %d, %+v) is %+v, %v", s.name, p, m, w, h, got, is)
	}
}

func checkFit(t *testing.T, p impl.Plan, m impl.Mem, w int64, h impl.Hand, want bool) {
	t.Helper()
	if got := impl.Fit(p, m, w, h); got != want {
		t.Errorf("Fit(%v, %v, %d, %+v) is %v", p, m, w, h, got)
	}
}

// checkUnfit sees that it is not fit, and so no step.
func (s stepper) checkUnfit(t *testing.T, p impl.Plan, m impl.Mem, w int64, h impl.Hand) {
	t.Helper()
	checkFit(t, p, m, w, h, false)
	s.checkRefused(t, p, m, w, h)
}

// checkAnswers sees that the step and Fit answer as told, always the same, and that the arguments stay, and what is behind them.
func (s stepper) checkAnswers(t *testing.T, p impl.Plan, m impl.Mem, w int64, h impl.Hand) {
	t.Helper()
	defer func() {
		if e := recover(); e != nil {
			t.Fatalf("panic at %v, %v, %d, %+v: %v", p, m, w, h, e)
		}
	}()
	given, whole := sparedMem(m)
	before := fullHeaps(whole)
	want, wantIs := s.told(p, m, w, h)
	wantFit := expectedFit(p, m, w, h)
	for range 2 {
		if got, is := s.step(p, given, w, h); is != wantIs || !sameDone(got, want) {
			t.Fatalf("%s(%v, %v, %d, %+v) is %+v, %v, not %+v, %v", s.name, p, m, w, h, got, is, want, wantIs)
		}
		if impl.Fit(p, given, w, h) != wantFit {
			t.Fatalf("Fit(%v, %v, %d, %+v) is not %v", p, m, w, h, wantFit)
		}
		if !sameMem(fullHeaps(whole), before) || !sameMem(given, m) {
			t.Fatalf("%s or Fit wrote into %v, or behind it: %v", s.name, m, whole)
		}
	}
}

// checkNewMemory sees that to write into an answer, or into the argument, changes nothing in the other, nor in another list of it.
func (s stepper) checkNewMemory(t *testing.T, p impl.Plan, m impl.Mem, w int64, h impl.Hand) {
	t.Helper()
	given, whole := sparedMem(m)
	before := fullHeaps(whole)
	got, _ := s.step(p, given, w, h)
	again, _ := s.step(p, given, w, h)
	want := clonedMem(got.Mem)
	scribble(got.Mem)
	if !sameMem(fullHeaps(whole), before) || !sameMem(given, m) || !sameMem(again.Mem, want) {
		t.Fatalf("the answer at %d shares memory with %v, or with another answer", h.At, m)
	}
	scribble(whole)
	if !sameMem(again.Mem, want) {
		t.Fatalf("the answer at %d shares memory with %v", h.At, m)
	}
	checkListsApart(t, again.Mem)
}

// otherCalls are right ones of each Code but these.
func otherCalls(p impl.Plan, but ...int64) []impl.Call {
	return slices.DeleteFunc(rightCalls(p), func(c impl.Call) bool { return slices.Contains(but, c.Code) })
}

// wrongMems are not right by this plan, each of them in one thing. The memory has two processors with a timer in each, none of the second one stopped, and four timers, the third one of them in no heap, as few less than there may be.
func wrongMems(t *testing.T, p impl.Plan, m impl.Mem) []impl.Mem {
	t.Helper()
	list := []impl.Mem{{}}
	for name, edit := range map[string]func(m *impl.Mem){
		"Clock at MaxTime": func(m *impl.Mem) { m.Clock = timeLimit },
		"Clock below 0":    func(m *impl.Mem) { m.Clock = -1 },
		"no Procs":         func(m *impl.Mem) { m.Procs = nil },
		"a Proc less":      func(m *impl.Mem) { m.Procs = m.Procs[:1] },
		"a Proc more":      func(m *impl.Mem) { m.Procs = append(m.Procs, idle(nil)) },
		"a timer too many": func(m *impl.Mem) {
			m.Timers = append(m.Timers, slices.Repeat(m.Timers[2:3], int(p.Timers)+1-len(m.Timers))...)
		},
		"no slot":         func(m *impl.Mem) { m.Procs[1].Heap = nil },
		"a slot twice":    func(m *impl.Mem) { m.Procs[0].Heap = append(m.Procs[0].Heap, m.Procs[0].Heap[0]) },
		"a Key":           func(m *impl.Mem) { m.Procs[0].Heap[0].Key++ },
		"a Lock":          func(m *impl.Mem) { m.Procs[0].Lock = p.Workers },
		"a Lock below -1": func(m *impl.Mem) { m.Procs[1].Lock = -2 },
		"Deleted":         func(m *impl.Mem) { m.Procs[1].Deleted = 1 },
		"Earliest":        func(m *impl.Mem) { m.Procs[1].Earliest = timeLimit + 1 },
		"a Gen":           func(m *impl.Mem) { m.Timers[3].Gen = genLimit + 1 },
		"a Status":        func(m *impl.Mem) { m.Timers[3].Status = 8 },
		"a Place":         func(m *impl.Mem) { m.Timers[3].Place = 2 },
		"a Place alone":   func(m *impl.Mem) { m.Timers[3].Place = 0 },
	} {
		wrong := edited(m, edit)
		if expectedMemOk(p, wrong) {
			t.Fatalf("%s: %v is right", name, wrong)
		}
		list = append(list, wrong)
	}
	return list
}

// checkUnfitArguments sees that it is refused by each plan, memory, hand and worker that is not right; with these hands it could be made.
func (s stepper) checkUnfitArguments(t *testing.T, p impl.Plan, m impl.Mem, hands []impl.Hand) {
	t.Helper()
	for _, h := range hands {
		for _, q := range wrongPlans(p) {
			for w := int64(-1); w <= p.Workers; w++ {
				s.checkUnfit(t, q, m, w, h)
				s.checkUnfit(t, q, memOf(p, 0), w, h)
				s.checkUnfit(t, q, impl.Mem{}, w, h)
			}
		}
		for _, wrong := range wrongMems(t, p, m) {
			for w := range p.Workers {
				s.checkUnfit(t, p, wrong, w, h)
			}
		}
		for _, w := range []int64{math.MinInt64, -2, -1, p.Workers, p.Workers + 1, workersLimit - 1, workersLimit, 1 << 32, 1<<32 + 1, math.MaxInt64} {
			s.checkUnfit(t, p, m, w, h)
		}
	}
	for _, h := range append(brokenHands(p), brokenFrom(p, hands...)...) {
		for w := range p.Workers {
			s.checkUnfit(t, p, m, w, h)
		}
	}
}

// checkEverywhere asks it with each number at each edge, and lists of any length; the memory has a slot in each heap.
func (s stepper) checkEverywhere(t *testing.T, p impl.Plan, m impl.Mem, hands []impl.Hand) {
	t.Helper()
	for _, n := range slices.Concat(edges, manyStatuses) {
		for _, h := range hands {
			s.checkAnswers(t, p, m, n, h)
			s.checkAnswers(t, impl.Plan{Procs: n, Workers: n, Timers: n}, m, n, h)
			s.checkAnswers(t, impl.Plan{Procs: n, Workers: p.Workers, Timers: p.Timers}, m, 1, h)
			s.checkEdges(t, p, m, h, n)
		}
	}
	for _, h := range hands {
		for _, c := range wildCalls() {
			h.Call = c
			s.checkAnswers(t, p, m, 2, h)
		}
	}
	for _, h := range slices.Concat(wildHands(), hands) {
		for _, q := range slices.Concat(wildPlans, rightPlans) {
			s.checkAnswers(t, q, impl.Mem{}, 0, h)
			s.checkAnswers(t, q, impl.NewMem(q), 0, h)
		}
	}
	for _, h := range hands {
		for _, count := range []int{0, 1, 3, 700} {
			for _, long := range []impl.Mem{{Timers: make([]impl.Timer, count)}, {Procs: make([]impl.Proc, count)}, {Timers: make([]impl.Timer, count), Procs: make([]impl.Proc, count)}} {
				for _, q := range slices.Concat(wildPlans, rightPlans) {
					s.checkAnswers(t, q, long, 0, h)
				}
			}
		}
		for _, heap := range procHeaps() {
			s.checkAnswers(t, p, impl.Mem{Timers: m.Timers, Procs: []impl.Proc{idle(heap), idle(nil)}}, 1, h)
			s.checkAnswers(t, p, impl.Mem{Timers: m.Timers, Procs: []impl.Proc{idle(heap), idle(heap)}}, 0, h)
		}
	}
}

// checkEdges asks it with each number of the memory and of the hand at this edge.
func (s stepper) checkEdges(t *testing.T, p impl.Plan, m impl.Mem, h impl.Hand, n int64) {
	t.Helper()
	ask := func(edit func(m *impl.Mem)) { s.checkAnswers(t, p, edited(m, edit), 1, h) }
	ask(func(m *impl.Mem) { m.Clock = n })
	for _, f := range handFields {
		wild := h
		*f.at(&wild) = n
		s.checkAnswers(t, p, m, 1, wild)
	}
	for i := range m.Timers {
		for _, at := range []func(k *impl.Timer) *int64{
			func(k *impl.Timer) *int64 { return &k.Status }, func(k *impl.Timer) *int64 { return &k.Place }, func(k *impl.Timer) *int64 { return &k.When },
			func(k *impl.Timer) *int64 { return &k.Next }, func(k *impl.Timer) *int64 { return &k.Gen },
		} {
			ask(func(m *impl.Mem) { *at(&m.Timers[i]) = n })
		}
	}
	for i := range m.Procs {
		for _, f := range procFields {
			ask(func(m *impl.Mem) { f.set(&m.Procs[i], n) })
		}
		ask(func(m *impl.Mem) { m.Procs[i].Heap[0].Id = n })
		ask(func(m *impl.Mem) { m.Procs[i].Heap[0].Key = n })
	}
}
