package tests

import (
	"math"
	"math/rand"
	"slices"
	"testing"

	"loop.example/g00743/impl"
)

// What the tests of all chapters of steps see alike.

type stepFunc func(p impl.Plan, m impl.Mem, w int64, h impl.Hand) (impl.Done, bool)

// A stepper is one of the program's functions that make a step, and a second rendering of the document's table for it.
type stepper struct {
	name string
	step stepFunc
	told stepFunc
}

var variedPlan = impl.Plan{Procs: 2, Workers: 5, Timers: 12}

// variedMem has a timer of each status, of StModifying one with a Place and one without, and two more that may be there; each has numbers of its own. The worker 3 holds the one heap, nobody the other one.
func variedMem() impl.Mem {
	m := memOf(variedPlan, 100,
		waiting(150, 0), turned(impl.StEarlier, 190, 95, 0), outside(impl.StNone, 20), turned(impl.StModifying, 130, 0, 1), turned(impl.StLater, 80, 170, 1),
		turned(impl.StDeleted, 85, 0, 0), turned(impl.StRunning, 90, 0, 1), outside(impl.StRemoved, 30), outside(impl.StModifying, 40), waiting(60, 1))
	for i := range m.Timers {
		k := &m.Timers[i]
		k.Period, k.Gen, k.Kind, k.Mail = 3+int64(i), 20+int64(i), int64(i)%2, 39*int64(i%3)
	}
	m.Procs[0].Lock = 3
	return m
}

// A standing is one way in which a timer may stand in a heap, or outside: when it was to ring, if it was, and otherwise whether who looks at it to change it stays.
type standing struct {
	status, when, next int64
	places             []int64
	told               int64 // the When of the EvCancel; -1 where there is none
	stays              bool
}

var standings = []standing{
	{impl.StNone, 45, 60, []int64{-1}, -1, false},
	{impl.StNone, 0, 0, []int64{-1}, -1, false},
	{impl.StWaiting, 45, 60, []int64{0, 1, 2}, 45, false},
	{impl.StWaiting, 60, 45, []int64{0, 1, 2}, 60, false},
	{impl.StWaiting, 0, timeLimit, []int64{0, 1, 2}, 0, false},
	{impl.StWaiting, timeLimit, 0, []int64{0, 1, 2}, timeLimit, false},
	{impl.StModifying, 45, 60, []int64{-1, 0, 1, 2}, -1, true},
	{impl.StModifying, 60, 45, []int64{-1, 0, 1, 2}, -1, true},
	{impl.StEarlier, 60, 45, []int64{0, 1, 2}, 45, false},
	{impl.StEarlier, 1, 0, []int64{0, 1, 2}, 0, false},
	{impl.StEarlier, timeLimit, timeLimit - 1, []int64{0, 1, 2}, timeLimit - 1, false},
	{impl.StLater, 45, 60, []int64{0, 1, 2}, 60, false},
	{impl.StLater, 45, 45, []int64{0, 1, 2}, 45, false},
	{impl.StLater, 0, timeLimit, []int64{0, 1, 2}, timeLimit, false},
	{impl.StLater, 0, 0, []int64{0, 1, 2}, 0, false},
	{impl.StDeleted, 45, 60, []int64{0, 1, 2}, -1, false},
	{impl.StDeleted, 60, 45, []int64{0, 1, 2}, -1, false},
	{impl.StRunning, 45, 60, []int64{0, 1, 2}, -1, true},
	{impl.StRunning, 60, 45, []int64{0, 1, 2}, -1, true},
	{impl.StRemoved, 45, 60, []int64{-1}, -1, false},
}

// The document's own words; that the Timer is not below -1 is told by the hand.
func expectedFit(p impl.Plan, m impl.Mem, w int64, h impl.Hand) bool {
	switch {
	case !expectedMemOk(p, m), !expectedHandOk(p, h), w < 0, w >= p.Workers:
		return false
	}
	return h.Timer == -1 || int(h.Timer) < len(m.Timers)
}

func sameDone(a impl.Done, b impl.Done) bool {
	return sameMem(a.Mem, b.Mem) && a.Hand == b.Hand && a.Ev == b.Ev
}

// check sees that a step is just this one, and that the memory stays.
func (s stepper) check(t *testing.T, p impl.Plan, m impl.Mem, w int64, h impl.Hand, want impl.Done) {
	t.Helper()
	given := clonedMem(m)
	if got, is := s.step(p, m, w, h); !is || !sameDone(got, want) {
		t.Errorf("%s(%v, %v, %d, %+v) is %+v, %v, not %+v", s.name, p, m, w, h, got, is, want)
	}
	if !sameMem(m, given) {
		t.Errorf("%v came to be %v", given, m)
	}
}

func (s stepper) checkRefused(t *testing.T, p impl.Plan, m impl.Mem, w int64, h impl.Hand) {
	t.Helper()
	if got, is := s.step(p, m, w, h); is || !sameDone(got, impl.Done{}) {
		t.Errorf("%s(%v, %v, %d, %+v) is %+v, %v", s.name, p, m, w, h, got, is)
	}
}

func checkFit(t *testing.T, p impl.Plan, m impl.Mem, w int64, h impl.Hand, want bool) {
	t.Helper()
	if got := impl.Fit(p, m, w, h); got != want {
		t.Errorf("Fit(%v, %v, %d, %+v) is %v", p, m, w, h, got)
	}
}

// checkUnfit sees that it is not fit, and so no step.
func (s stepper) checkUnfit(t *testing.T, p impl.Plan, m impl.Mem, w int64, h impl.Hand) {
	t.Helper()
	checkFit(t, p, m, w, h, false)
	s.checkRefused(t, p, m, w, h)
}

// checkAnswers sees that the step and Fit answer as told, always the same, and that the arguments stay, and what is behind them.
func (s stepper) checkAnswers(t *testing.T, p impl.Plan, m impl.Mem, w int64, h impl.Hand) {
	t.Helper()
	defer func() {
		if e := recover(); e != nil {
			t.Fatalf("panic at %v, %v, %d, %+v: %v", p, m, w, h, e)
		}
	}()
	given, whole := sparedMem(m)
	before := fullHeaps(whole)
	want, wantIs := s.told(p, m, w, h)
	wantFit := expectedFit(p, m, w, h)
	for range 2 {
		if got, is := s.step(p, given, w, h); is != wantIs || !sameDone(got, want) {
			t.Fatalf("%s(%v, %v, %d, %+v) is %+v, %v, not %+v, %v", s.name, p, m, w, h, got, is, want, wantIs)
		}
		if impl.Fit(p, given, w, h) != wantFit {
			t.Fatalf("Fit(%v, %v, %d, %+v) is not %v", p, m, w, h, wantFit)
		}
		if !sameMem(fullHeaps(whole), before) || !sameMem(given, m) {
			t.Fatalf("%s or Fit wrote into %v, or behind it: %v", s.name, m, whole)
		}
	}
}

// checkNewMemory sees that to write into an answer, or into the argument, changes nothing in the other, nor in another list of it.
func (s stepper) checkNewMemory(t *testing.T, p impl.Plan, m impl.Mem, w int64, h impl.Hand) {
	t.Helper()
	given, whole := sparedMem(m)
	before := fullHeaps(whole)
	got, _ := s.step(p, given, w, h)
	again, _ := s.step(p, given, w, h)
	want := clonedMem(got.Mem)
	scribble(got.Mem)
	if !sameMem(fullHeaps(whole), before) || !sameMem(given, m) || !sameMem(again.Mem, want) {
		t.Fatalf("the answer at %d shares memory with %v, or with another answer", h.At, m)
	}
	scribble(whole)
	if !sameMem(again.Mem, want) {
		t.Fatalf("the answer at %d shares memory with %v", h.At, m)
	}
	checkListsApart(t, again.Mem)
}

// otherCalls are right ones of each Code but these.
func otherCalls(p impl.Plan, but ...int64) []impl.Call {
	return slices.DeleteFunc(rightCalls(p), func(c impl.Call) bool { return slices.Contains(but, c.Code) })
}

// wrongMems are not right by this plan, each of them in one thing. The memory has two processors with a timer in each, none of the second one stopped, and four timers, the third one of them in no heap, as few less than there may be.
func wrongMems(t *testing.T, p impl.Plan, m impl.Mem) []impl.Mem {
	t.Helper()
	list := []impl.Mem{{}}
	for name, edit := range map[string]func(m *impl.Mem){
		"Clock at MaxTime": func(m *impl.Mem) { m.Clock = timeLimit },
		"Clock below 0":    func(m *impl.Mem) { m.Clock = -1 },
		"no Procs":         func(m *impl.Mem) { m.Procs = nil },
		"a Proc less":      func(m *impl.Mem) { m.Procs = m.Procs[:1] },
		"a Proc more":      func(m *impl.Mem) { m.Procs = append(m.Procs, idle(nil)) },
		"a timer too many": func(m *impl.Mem) {
			m.Timers = append(m.Timers, slices.Repeat(m.Timers[2:3], int(p.Timers)+1-len(m.Timers))...)
		},
		"no slot":         func(m *impl.Mem) { m.Procs[1].Heap = nil },
		"a slot twice":    func(m *impl.Mem) { m.Procs[0].Heap = append(m.Procs[0].Heap, m.Procs[0].Heap[0]) },
		"a Key":           func(m *impl.Mem) { m.Procs[0].Heap[0].Key++ },
		"a Lock":          func(m *impl.Mem) { m.Procs[0].Lock = p.Workers },
		"a Lock below -1": func(m *impl.Mem) { m.Procs[1].Lock = -2 },
		"Deleted":         func(m *impl.Mem) { m.Procs[1].Deleted = 1 },
		"Earliest":        func(m *impl.Mem) { m.Procs[1].Earliest = timeLimit + 1 },
		"a Gen":           func(m *impl.Mem) { m.Timers[3].Gen = genLimit + 1 },
		"a Status":        func(m *impl.Mem) { m.Timers[3].Status = 8 },
		"a Place":         func(m *impl.Mem) { m.Timers[3].Place = 2 },
		"a Place alone":   func(m *impl.Mem) { m.Timers[3].Place = 0 },
	} {
		wrong := edited(m, edit)
		if expectedMemOk(p, wrong) {
			t.Fatalf("%s: %v is right", name, wrong)
		}
		list = append(list, wrong)
	}
	return list
}

// checkUnfitArguments sees that it is refused by each plan, memory, hand and worker that is not right; with these hands it could be made.
func (s stepper) checkUnfitArguments(t *testing.T, p impl.Plan, m impl.Mem, hands []impl.Hand) {
	t.Helper()
	for _, h := range hands {
		for _, q := range wrongPlans(p) {
			for w := int64(-1); w <= p.Workers; w++ {
				s.checkUnfit(t, q, m, w, h)
				s.checkUnfit(t, q, memOf(p, 0), w, h)
				s.checkUnfit(t, q, impl.Mem{}, w, h)
			}
		}
		for _, wrong := range wrongMems(t, p, m) {
			for w := range p.Workers {
				s.checkUnfit(t, p, wrong, w, h)
			}
		}
		for _, w := range []int64{math.MinInt64, -2, -1, p.Workers, p.Workers + 1, workersLimit - 1, workersLimit, 1 << 32, 1<<32 + 1, math.MaxInt64} {
			s.checkUnfit(t, p, m, w, h)
		}
	}
	for _, h := range append(brokenHands(p), brokenFrom(p, hands...)...) {
		for w := range p.Workers {
			s.checkUnfit(t, p, m, w, h)
		}
	}
}

// checkOtherAts sees that at each At but these there is no step, with whatever Call, and with these, though all is fit.
func (s stepper) checkOtherAts(t *testing.T, p impl.Plan, m impl.Mem, own []int64, calls ...impl.Call) {
	t.Helper()
	for at := range int64(atLimit + 1) {
		if slices.Contains(own, at) {
			continue
		}
		for _, c := range slices.Concat(rightCalls(p), calls, []impl.Call{{}}) {
			for timer := int64(-1); timer < int64(len(m.Timers)); timer++ {
				for w := range p.Workers {
					h := impl.Hand{At: at, Call: c, Timer: timer, When: 8}
					checkFit(t, p, m, w, h, at == impl.AtRest || c != impl.Call{})
					s.checkRefused(t, p, m, w, h)
				}
			}
		}
	}
}

// checkEachWorker sees that each of these hands is fit, with each worker, and has its step, unless it rests.
func (s stepper) checkEachWorker(t *testing.T, p impl.Plan, m impl.Mem, hands []impl.Hand) {
	t.Helper()
	for w := range p.Workers {
		s.checkWorker(t, p, m, w, hands)
	}
}

func (s stepper) checkWorker(t *testing.T, p impl.Plan, m impl.Mem, w int64, hands []impl.Hand) {
	t.Helper()
	for _, h := range hands {
		checkFit(t, p, m, w, h, true)
		if _, is := s.step(p, m, w, h); is != (h.At != impl.AtRest) {
			t.Errorf("%s of worker %d with %+v is %v", s.name, w, h, is)
		}
	}
}

// checkTimerNotThere sees that the hand's Timer is to be -1 or there, though to look for another one it would not matter.
func (s stepper) checkTimerNotThere(t *testing.T, p impl.Plan, m impl.Mem, hands []impl.Hand) {
	t.Helper()
	for _, h := range hands {
		for timer := int64(len(m.Timers)); timer < p.Timers+2; timer++ {
			h.Timer = timer
			for w := range p.Workers {
				s.checkUnfit(t, p, m, w, h)
			}
		}
	}
}

// checkLookOfAnotherCode sees that to look is of this chapter only where this was asked; other ones look too, but not here.
func (s stepper) checkLookOfAnotherCode(t *testing.T, code int64) {
	t.Helper()
	m := variedMem()
	calls := rightCalls(variedPlan)
	for id := range variedPlan.Timers {
		calls = append(calls, impl.Call{Code: impl.OpStop, A: id}, impl.Call{Code: impl.OpReset, A: id, B: 9}, impl.Call{Code: impl.OpRecv, A: id})
	}
	for _, c := range calls {
		for timer := int64(-1); timer < int64(len(m.Timers)); timer++ {
			for w := range variedPlan.Workers {
				h := impl.Hand{At: impl.AtLook, Call: c, Timer: timer}
				checkFit(t, variedPlan, m, w, h, true)
				if c.Code != code {
					s.checkRefused(t, variedPlan, m, w, h)
				}
			}
		}
	}
}

// checkLookAtEachStatus looks with this Call, of the timer 2, at each standing, with each Place, Clock and Gen; what comes of it is told by what is changed of the memory and of the hand.
func (s stepper) checkLookAtEachStatus(t *testing.T, call impl.Call, change func(c standing, want *impl.Done)) {
	t.Helper()
	for _, c := range standings {
		for _, place := range c.places {
			for _, clock := range []int64{0, 45, 50, timeLimit - 1} {
				for _, gen := range []int64{0, 1, genLimit} {
					k := impl.Timer{Status: c.status, When: c.when, Next: c.next, Period: 7, Place: place, Gen: gen, Kind: impl.KdFunc, Mail: 39}
					m := memOf(memPlan, clock, waiting(40, 0), turned(impl.StDeleted, 10, 0, 2), k, turned(impl.StEarlier, 44, 43, 1))
					for timer := int64(-1); timer < 4; timer++ {
						h := impl.Hand{At: impl.AtLook, Call: call, Timer: timer, When: 8, Had: timer > 1, Count: 2, Begin: 6, Reply: impl.RpFull, Out: 5}
						want := impl.Done{Mem: clonedMem(m), Hand: h}
						change(c, &want)
						for w := range memPlan.Workers {
							s.check(t, memPlan, m, w, h, want)
						}
					}
				}
			}
		}
	}
}

// checkTurnAtEachStatus makes a step with this hand, and each Call, of the timer 1, at each standing: who is changed is the Timer of the hand, whatever the Call; it is to be StModifying, and to have a Place.
func (s stepper) checkTurnAtEachStatus(t *testing.T, h impl.Hand, change func(place int64, want *impl.Done)) {
	t.Helper()
	h.Timer, h.Count, h.Begin, h.Reply, h.Out = 1, 2, 6, impl.RpFull, 5
	for _, c := range standings {
		for _, place := range c.places {
			k := marked(turned(c.status, c.when, c.next, place))
			m := memOf(memPlan, 50, waiting(40, 0), k, waiting(10, 2), turned(impl.StDeleted, 30, 0, 1), turned(impl.StDeleted, 30, 0, 0), turned(impl.StDeleted, 9, 0, 1))
			for _, call := range append(rightCalls(memPlan), stopOf(0), stopOf(2), stopOf(7)) {
				h.Call = call
				for w := range memPlan.Workers {
					if c.status != impl.StModifying || place == -1 {
						checkFit(t, memPlan, m, w, h, true)
						s.checkRefused(t, memPlan, m, w, h)
						continue
					}
					want := impl.Done{Mem: clonedMem(m), Hand: h}
					change(place, &want)
					s.check(t, memPlan, m, w, h, want)
				}
			}
		}
	}
}

// checkTurnOfNoTimer sees that without a Timer nobody is changed, though the Call names one that could be.
func (s stepper) checkTurnOfNoTimer(t *testing.T, at int64) {
	t.Helper()
	for _, m := range []impl.Mem{variedMem(), memOf(variedPlan, 0), memOf(variedPlan, 3, turned(impl.StModifying, 30, 0, 0))} {
		for w := range variedPlan.Workers {
			for _, c := range append(rightCalls(variedPlan), stopOf(0), stopOf(3), impl.Call{Code: impl.OpReset, A: 3, B: 9}) {
				h := impl.Hand{At: at, Call: c, Timer: -1}
				checkFit(t, variedPlan, m, w, h, true)
				s.checkRefused(t, variedPlan, m, w, h)
			}
		}
	}
}

// checkStays sees that who looks at the timer 1 with this Call stays, as often as he looks, whoever holds the heap, while another one changes it, or it rings.
func (s stepper) checkStays(t *testing.T, c impl.Call) {
	t.Helper()
	for _, k := range []impl.Timer{turned(impl.StModifying, 45, 60, 1), outside(impl.StModifying, 45), turned(impl.StRunning, 45, 60, 1)} {
		for timer := int64(-1); timer < 2; timer++ {
			m := memOf(memPlan, 50, waiting(40, 0), k)
			h := impl.Hand{At: impl.AtLook, Call: c, Timer: timer}
			for w := range memPlan.Workers {
				for lock := int64(-1); lock < memPlan.Workers; lock++ {
					m.Procs[1].Lock = lock
					for range 3 {
						s.check(t, memPlan, m, w, h, impl.Done{Mem: m, Hand: h})
					}
				}
			}
		}
	}
}

// A handMaker makes hands at random for a memory.
type handMaker func(r *rand.Rand, p impl.Plan, m impl.Mem) impl.Hand

// checkMixtures asks it of many memories, right ones and disturbed ones; it counts the steps made of the right ones by their At, their replies, and those refused.
func (s stepper) checkMixtures(t *testing.T, seed int64, maker handMaker) (map[int64]int, map[int64]int, int) {
	t.Helper()
	r := rand.New(rand.NewSource(seed))
	made, replies, refused := map[int64]int{}, map[int64]int{}, 0
	for _, c := range tidyMems(t) {
		for range 60 {
			w, h := r.Int63n(c.p.Workers+2)-1, maker(r, c.p, c.m)
			s.checkAnswers(t, c.p, c.m, w, h)
			d, is := s.told(c.p, c.m, w, h)
			if !is {
				refused++
				continue
			}
			made[h.At]++
			if d.Hand.At == impl.AtRest {
				replies[d.Hand.Reply]++
			}
		}
		for range 6 {
			m := clonedMem(c.m)
			disturb(r, &m)
			s.checkAnswers(t, c.p, m, r.Int63n(c.p.Workers), maker(r, c.p, m))
		}
	}
	return made, replies, refused
}

// checkNewMemories sees of many memories that answers are new.
func (s stepper) checkNewMemories(t *testing.T, seed int64, maker handMaker) {
	t.Helper()
	r := rand.New(rand.NewSource(seed))
	for _, c := range tidyMems(t) {
		for range 12 {
			s.checkNewMemory(t, c.p, c.m, r.Int63n(c.p.Workers), maker(r, c.p, c.m))
		}
	}
}

// A caller is a worker with a call, and what was told by him.
type caller struct {
	worker int64
	hand   impl.Hand
	told   []impl.Ev
}

func newCaller(t *testing.T, p impl.Plan, w int64, c impl.Call) caller {
	t.Helper()
	h, code := impl.Called(p, impl.NewHand(), c)
	if code != impl.CdOk {
		t.Fatalf("Called of %+v tells %d", c, code)
	}
	return caller{worker: w, hand: h}
}

// oneStep makes one step, and sees that there is one, that it keeps all right, and that statuses pass as they may.
func (c *caller) oneStep(t *testing.T, s stepper, p impl.Plan, m impl.Mem) impl.Done {
	t.Helper()
	d, is := s.step(p, m, c.worker, c.hand)
	if !is || !impl.MemOk(p, d.Mem) || !impl.HandOk(p, d.Hand) || len(d.Mem.Timers) < len(m.Timers) {
		t.Fatalf("%s(%v, %v, %d, %+v) is %+v, %v", s.name, p, m, c.worker, c.hand, d, is)
	}
	for i, before := range m.Timers {
		if after := d.Mem.Timers[i]; before.Status != after.Status && !impl.Passes(before.Status, after.Status) {
			t.Fatalf("at %d %v came to be %v", c.hand.At, before, after)
		}
	}
	if d.Ev != (impl.Ev{}) {
		c.told = append(c.told, d.Ev)
	}
	c.hand = d.Hand
	return d
}

// byTurns has all workers ask, and step, by turns in any order, till so many calls were asked and all rest; as long as they ask the clock goes on.
func byTurns(t *testing.T, r *rand.Rand, p impl.Plan, m impl.Mem, most int, ask func() impl.Call, turn func(c *caller, m impl.Mem) impl.Mem) impl.Mem {
	t.Helper()
	callers := make([]caller, p.Workers)
	for i := range callers {
		callers[i] = caller{worker: int64(i), hand: impl.NewHand()}
	}
	busy := func(c caller) bool { return c.hand.At != impl.AtRest }
	for asked, turns := 0, 0; asked < most || slices.ContainsFunc(callers, busy); turns++ {
		if turns == 20000 {
			t.Fatalf("they do not come to rest: %v, %+v", m, callers)
		}
		c := &callers[r.Intn(len(callers))]
		if !busy(*c) {
			if asked == most {
				continue
			}
			asked++
			*c = newCaller(t, p, c.worker, ask())
		}
		if m = turn(c, m); asked < most && r.Intn(10) == 0 {
			m = impl.Elapsed(p, m, r.Int63n(5))
		}
	}
	return m
}

// checkEverywhere asks it with each number at each edge, and lists of any length; the memory has a slot in each heap.
func (s stepper) checkEverywhere(t *testing.T, p impl.Plan, m impl.Mem, hands []impl.Hand) {
	t.Helper()
	for _, n := range slices.Concat(edges, manyStatuses) {
		for _, h := range hands {
			s.checkAnswers(t, p, m, n, h)
			s.checkAnswers(t, impl.Plan{Procs: n, Workers: n, Timers: n}, m, n, h)
			s.checkAnswers(t, impl.Plan{Procs: n, Workers: p.Workers, Timers: p.Timers}, m, 1, h)
			s.checkEdges(t, p, m, h, n)
		}
	}
	for _, h := range hands {
		for _, c := range wildCalls() {
			h.Call = c
			s.checkAnswers(t, p, m, 2, h)
		}
	}
	for _, h := range slices.Concat(wildHands(), hands) {
		for _, q := range slices.Concat(wildPlans, rightPlans) {
			s.checkAnswers(t, q, impl.Mem{}, 0, h)
			s.checkAnswers(t, q, impl.NewMem(q), 0, h)
		}
	}
	for _, h := range hands {
		for _, count := range []int{0, 1, 3, 700} {
			for _, long := range []impl.Mem{{Timers: make([]impl.Timer, count)}, {Procs: make([]impl.Proc, count)}, {Timers: make([]impl.Timer, count), Procs: make([]impl.Proc, count)}} {
				for _, q := range slices.Concat(wildPlans, rightPlans) {
					s.checkAnswers(t, q, long, 0, h)
				}
			}
		}
		for _, heap := range procHeaps() {
			s.checkAnswers(t, p, impl.Mem{Timers: m.Timers, Procs: []impl.Proc{idle(heap), idle(nil)}}, 1, h)
			s.checkAnswers(t, p, impl.Mem{Timers: m.Timers, Procs: []impl.Proc{idle(heap), idle(heap)}}, 0, h)
		}
	}
}

// checkEdges asks it with each number of the memory and of the hand at this edge.
func (s stepper) checkEdges(t *testing.T, p impl.Plan, m impl.Mem, h impl.Hand, n int64) {
	t.Helper()
	ask := func(edit func(m *impl.Mem)) { s.checkAnswers(t, p, edited(m, edit), 1, h) }
	ask(func(m *impl.Mem) { m.Clock = n })
	for _, f := range handFields {
		wild := h
		*f.at(&wild) = n
		s.checkAnswers(t, p, m, 1, wild)
	}
	for i := range m.Timers {
		for _, at := range []func(k *impl.Timer) *int64{
			func(k *impl.Timer) *int64 { return &k.Status }, func(k *impl.Timer) *int64 { return &k.Place }, func(k *impl.Timer) *int64 { return &k.When },
			func(k *impl.Timer) *int64 { return &k.Next }, func(k *impl.Timer) *int64 { return &k.Gen },
		} {
			ask(func(m *impl.Mem) { *at(&m.Timers[i]) = n })
		}
	}
	for i := range m.Procs {
		for _, f := range procFields {
			ask(func(m *impl.Mem) { f.set(&m.Procs[i], n) })
		}
		ask(func(m *impl.Mem) { m.Procs[i].Heap[0].Id = n })
		ask(func(m *impl.Mem) { m.Procs[i].Heap[0].Key = n })
	}
}
