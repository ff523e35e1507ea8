package tests

import (
	"math"
	"math/rand"
	"slices"
	"testing"

	"loop.example/g00743/impl"
)

// The limits of chapters 7 and 8 are written out as the document has them.
const (
	atLimit    = 18
	countLimit = 1000
	nowLimit   = 20000
	replyLimit = 5
	codeLimit  = 6
)

func TestHandConstants(t *testing.T) {
	ats := []int64{impl.AtRest, impl.AtAlloc, impl.AtLock, impl.AtPush, impl.AtUnlock, impl.AtLook, impl.AtTurn, impl.AtKey, impl.AtGrab, impl.AtTidy,
		impl.AtRing, impl.AtAgain, impl.AtTell, impl.AtFree, impl.AtLow, impl.AtHigh, impl.AtShift, impl.AtLeave, impl.AtTake}
	for want, at := range ats {
		if at != int64(want) {
			t.Errorf("the At that stands at %d is %d", want, at)
		}
	}
	for i, code := range []int64{impl.OpNew, impl.OpStop, impl.OpReset, impl.OpCheck, impl.OpMove, impl.OpRecv} {
		if code != int64(i)+1 {
			t.Errorf("the Code that stands at %d is %d", i+1, code)
		}
	}
	for i, reply := range []int64{impl.RpOk, impl.RpYes, impl.RpNo, impl.RpFull, impl.RpNone} {
		if reply != int64(i)+1 {
			t.Errorf("the Reply that stands at %d is %d", i+1, reply)
		}
	}
	if len(ats) != atLimit+1 || impl.MaxCount != countLimit || impl.MaxNow != nowLimit {
		t.Error(len(ats), impl.MaxCount, impl.MaxNow)
	}
}

// What A, B and C are by each Code, as the document's table has it; what is not named is empty.
var callTable = map[int64][3]string{
	1: {"kind", "time", "time"},
	2: {"timer"},
	3: {"timer", "time"},
	4: {"processor"},
	5: {"processor", "processor"},
	6: {"timer"},
}

// mostAs is the greatest value of what is named so; 0 is the least of all.
func mostAs(p impl.Plan, named string) int64 {
	return map[string]int64{"": 0, "kind": 1, "time": timeLimit, "timer": p.Timers - 1, "processor": p.Procs - 1}[named]
}

func expectedCallRight(p impl.Plan, c impl.Call) bool {
	fields, known := callTable[c.Code]
	for i, n := range []int64{c.A, c.B, c.C} {
		if n < 0 || n > mostAs(p, fields[i]) {
			return false
		}
	}
	return known && !(c.Code == 5 && c.A == c.B)
}

// The document's own words, field by field.
func expectedHandOk(p impl.Plan, h impl.Hand) bool {
	none := h.Call.Code == 0 && h.Call.A == 0 && h.Call.B == 0 && h.Call.C == 0
	switch {
	case !impl.PlanOk(p), h.At < 0, h.At > 18, h.Timer < -1, h.Timer >= p.Timers, h.When < 0, h.When > timeLimit:
		return false
	case h.Count < 0, h.Count > 1000, h.Begin < 0, h.Begin > 20000, h.Reply < 0, h.Reply > 5, h.Out < 0, h.Out > timeLimit:
		return false
	}
	return none && h.At == 0 || expectedCallRight(p, h.Call)
}

// handFields has, of each number that only has limits, where it stands, the least that it may be, and the greatest.
var handFields = []struct {
	name  string
	least int64
	most  func(p impl.Plan) int64
	at    func(h *impl.Hand) *int64
}{
	{"At", 0, func(impl.Plan) int64 { return atLimit }, func(h *impl.Hand) *int64 { return &h.At }},
	{"Timer", -1, func(p impl.Plan) int64 { return p.Timers - 1 }, func(h *impl.Hand) *int64 { return &h.Timer }},
	{"When", 0, func(impl.Plan) int64 { return timeLimit }, func(h *impl.Hand) *int64 { return &h.When }},
	{"Count", 0, func(impl.Plan) int64 { return countLimit }, func(h *impl.Hand) *int64 { return &h.Count }},
	{"Begin", 0, func(impl.Plan) int64 { return nowLimit }, func(h *impl.Hand) *int64 { return &h.Begin }},
	{"Reply", 0, func(impl.Plan) int64 { return replyLimit }, func(h *impl.Hand) *int64 { return &h.Reply }},
	{"Out", 0, func(impl.Plan) int64 { return timeLimit }, func(h *impl.Hand) *int64 { return &h.Out }},
}

// callFields are the numbers of a Call in the order of the table's columns.
var callFields = []func(c *impl.Call) *int64{
	func(c *impl.Call) *int64 { return &c.A }, func(c *impl.Call) *int64 { return &c.B }, func(c *impl.Call) *int64 { return &c.C },
}

// rightCalls are of each Code the least one, the greatest one and one between; where there is one processor nothing moves.
func rightCalls(p impl.Plan) []impl.Call {
	lastTimer, lastProc := p.Timers-1, p.Procs-1
	list := []impl.Call{
		{Code: 1}, {Code: 1, A: 0, B: 70, C: 7}, {Code: 1, A: 1, B: timeLimit, C: timeLimit},
		{Code: 2}, {Code: 2, A: lastTimer / 2}, {Code: 2, A: lastTimer},
		{Code: 3}, {Code: 3, A: lastTimer / 2, B: 70}, {Code: 3, A: lastTimer, B: timeLimit},
		{Code: 4}, {Code: 4, A: lastProc / 2}, {Code: 4, A: lastProc},
		{Code: 6}, {Code: 6, A: lastTimer / 2}, {Code: 6, A: lastTimer},
	}
	if lastProc > 0 {
		list = append(list, impl.Call{Code: 5, A: 0, B: 1}, impl.Call{Code: 5, A: lastProc, B: 0}, impl.Call{Code: 5, A: lastProc - 1, B: lastProc})
	}
	return list
}

// handPlans are right; in the last one no number is another one, or one less.
var handPlans = append(slices.Clone(rightPlans), impl.Plan{Procs: 3, Workers: 6, Timers: 10})

// handsWith are at each At, with each number at its least and at its greatest, Had both ways, and this Call.
func handsWith(p impl.Plan, c impl.Call) []impl.Hand {
	list := []impl.Hand{}
	for at := range int64(atLimit + 1) {
		for _, had := range []bool{false, true} {
			list = append(list,
				impl.Hand{At: at, Call: c, Timer: -1, Had: had},
				impl.Hand{At: at, Call: c, Timer: p.Timers - 1, When: timeLimit, Had: had, Count: countLimit, Begin: nowLimit, Reply: replyLimit, Out: timeLimit})
		}
	}
	return list
}

func checkHandOk(t *testing.T, p impl.Plan, h impl.Hand, want bool) {
	t.Helper()
	if got := impl.HandOk(p, h); got != want {
		t.Errorf("HandOk(%v, %+v) is %v", p, h, got)
	}
}

func TestHandOkOrdinary(t *testing.T) {
	p := impl.Plan{Procs: 2, Workers: 3, Timers: 10}
	arm, check := impl.Call{Code: impl.OpNew, A: impl.KdFunc, B: 5, C: 7}, impl.Call{Code: impl.OpCheck, A: 1}
	for _, c := range []struct {
		h    impl.Hand
		want bool
	}{
		{impl.Hand{Timer: -1}, true},
		{impl.Hand{}, true}, // Timer is the timer 0
		{impl.Hand{Timer: -1, Reply: impl.RpOk, Out: 9}, true},
		{impl.Hand{At: impl.AtAlloc, Call: arm, Timer: -1, Begin: 17}, true},
		{impl.Hand{At: impl.AtPush, Call: arm, Timer: 9, When: 12, Begin: 17}, true},
		{impl.Hand{At: impl.AtTell, Call: check, Timer: 3, Count: 2, Begin: 17}, true},
		{impl.Hand{At: impl.AtTell, Call: arm, Timer: 3, Had: true}, true}, // the Call need not be one that comes there
		{impl.Hand{Call: check, Timer: -1}, true},                          // at rest, and still with a Call
		{impl.Hand{At: impl.AtTell, Timer: -1}, false},
		{impl.Hand{At: impl.AtTell, Call: impl.Call{Code: impl.OpCheck, A: 2}, Timer: -1}, false},
		{impl.Hand{Call: impl.Call{Code: impl.OpCheck, A: 2}, Timer: -1}, false},
		{impl.Hand{Call: impl.Call{C: 1}, Timer: -1}, false},
		{impl.Hand{At: impl.AtPush, Call: arm, Timer: 10}, false},
		{impl.Hand{At: impl.AtTake + 1, Call: arm, Timer: -1}, false},
	} {
		checkHandOk(t, p, c.h, c.want)
	}
}

// The limits by number, in a plan of 10 timers.
func TestHandOkLimitsWrittenOut(t *testing.T) {
	p := impl.Plan{Procs: 2, Workers: 3, Timers: 10}
	for name, c := range map[string]struct{ right, wrong []int64 }{
		"At":    {[]int64{0, 1, 17, 18}, []int64{-1, 19, math.MinInt64, math.MaxInt64}},
		"Timer": {[]int64{-1, 0, 8, 9}, []int64{-2, 10, 11, 29, math.MinInt64, math.MaxInt64}},
		"When":  {[]int64{0, 1, 999999999, 1000000000}, []int64{-1, 1000000001, math.MinInt64, math.MaxInt64}},
		"Count": {[]int64{0, 1, 999, 1000}, []int64{-1, 1001, math.MinInt64, math.MaxInt64}},
		"Begin": {[]int64{0, 1, 19999, 20000}, []int64{-1, 20001, math.MinInt64, math.MaxInt64}},
		"Reply": {[]int64{0, 1, 4, 5}, []int64{-1, 6, math.MinInt64, math.MaxInt64}},
		"Out":   {[]int64{0, 1, 999999999, 1000000000}, []int64{-1, 1000000001, math.MinInt64, math.MaxInt64}},
	} {
		for _, f := range handFields {
			if f.name != name {
				continue
			}
			for _, n := range slices.Concat(c.right, c.wrong) {
				h := impl.Hand{At: impl.AtGrab, Call: impl.Call{Code: impl.OpCheck}, Timer: -1}
				*f.at(&h) = n
				checkHandOk(t, p, h, slices.Contains(c.right, n))
			}
		}
	}
}

// Each number at its limits and far outside, while all else is right: at each At, with each Call.
func TestHandOkEachNumberAtItsLimits(t *testing.T) {
	for _, p := range handPlans {
		for _, c := range rightCalls(p) {
			for _, base := range handsWith(p, c) {
				checkHandOk(t, p, base, true)
				for _, f := range handFields {
					most := f.most(p)
					for _, n := range []int64{math.MinInt64, math.MinInt64 + 1, -1 << 32, f.least - 2, f.least - 1, f.least, most, most + 1, most + 2, 1 << 32, math.MaxInt64 - 1, math.MaxInt64} {
						h := base
						*f.at(&h) = n
						checkHandOk(t, p, h, n >= f.least && n <= most)
					}
				}
			}
		}
		for _, f := range handFields {
			for _, n := range edges {
				h := impl.Hand{At: impl.AtLook, Call: impl.Call{Code: impl.OpStop}, Timer: -1}
				*f.at(&h) = n
				checkHandOk(t, p, h, n >= f.least && n <= f.most(p))
			}
		}
	}
}

// Timer is one that the plan may have, not one that any plan may have.
func TestHandOkTimerOfThePlan(t *testing.T) {
	for timers := int64(1); timers <= timersLimit; timers++ {
		p := impl.Plan{Procs: 2, Workers: 3, Timers: timers}
		for k := int64(-3); k <= timersLimit+2; k++ {
			h := impl.NewHand()
			h.Timer = k
			checkHandOk(t, p, h, k >= -1 && k < timers)
		}
	}
}

func TestHandOkPlanNotRight(t *testing.T) {
	for _, base := range handPlans {
		hands := []impl.Hand{{}, impl.NewHand(), impl.Resting(impl.RpOk, 3)}
		for _, c := range rightCalls(base) {
			hands = append(hands, handsWith(base, c)...)
		}
		for _, p := range wrongPlans(base) {
			for _, h := range hands {
				checkHandOk(t, p, h, false)
			}
		}
	}
}

// Without a Call one rests; wherever else one is, there is a Call.
func TestHandOkOfNoCall(t *testing.T) {
	for _, p := range handPlans {
		for _, h := range handsWith(p, impl.Call{}) {
			checkHandOk(t, p, h, h.At == 0)
		}
	}
}

// What is nearly no Call is neither none nor a right one.
func TestHandOkOfNearlyNoCall(t *testing.T) {
	for _, p := range handPlans {
		for _, f := range callFields {
			for _, n := range []int64{math.MinInt64, -1, 1, 2, 1 << 32, math.MaxInt64} {
				c := impl.Call{}
				*f(&c) = n
				for _, h := range handsWith(p, c) {
					checkHandOk(t, p, h, false)
				}
			}
		}
	}
}

func TestHandOkOfNoSuchCode(t *testing.T) {
	for _, p := range handPlans {
		for _, code := range []int64{math.MinInt64, -1 << 32, -6, -2, -1, 0, codeLimit + 1, codeLimit + 2, 100, 1 << 32, 1<<32 + 1, math.MaxInt64} {
			for _, c := range rightCalls(p) {
				c.Code = code
				for _, h := range handsWith(p, c) {
					checkHandOk(t, p, h, c == impl.Call{} && h.At == 0)
				}
			}
		}
	}
}

// nearCalls are the right ones with one number at a limit of its own, beside it, or far outside.
func nearCalls(p impl.Plan) []callCase {
	list := []callCase{}
	for _, base := range rightCalls(p) {
		for i, f := range callFields {
			most := mostAs(p, callTable[base.Code][i])
			for _, n := range []int64{math.MinInt64, -1 << 32, -2, -1, 0, most, most + 1, most + 2, timersLimit, timeLimit + 1, 1 << 32, math.MaxInt64} {
				c := base
				*f(&c) = n
				list = append(list, callCase{c, n >= 0 && n <= most && !(c.Code == 5 && c.A == c.B)})
			}
		}
	}
	return list
}

// At each At, also at rest, a Call is right or not.
func TestHandOkCallWithOneNumberWrong(t *testing.T) {
	for _, p := range handPlans {
		for _, c := range nearCalls(p) {
			for _, h := range handsWith(p, c.call) {
				checkHandOk(t, p, h, c.want)
			}
		}
	}
}

// writtenPlan is what writtenCalls are written for.
var writtenPlan = impl.Plan{Procs: 2, Workers: 3, Timers: 4}

// A callCase is a call, and whether it is right.
type callCase struct {
	call impl.Call
	want bool
}

// writtenCalls have each limit by number.
var writtenCalls = []callCase{
	{impl.Call{Code: impl.OpNew}, true}, {impl.Call{Code: impl.OpNew, A: 1, B: timeLimit, C: timeLimit}, true}, {impl.Call{Code: impl.OpNew, A: 2}, false}, {impl.Call{Code: impl.OpNew, A: -1}, false},
	{impl.Call{Code: impl.OpNew, B: timeLimit + 1}, false}, {impl.Call{Code: impl.OpNew, B: -1}, false}, {impl.Call{Code: impl.OpNew, C: timeLimit + 1}, false}, {impl.Call{Code: impl.OpNew, C: -1}, false},
	{impl.Call{Code: impl.OpStop}, true}, {impl.Call{Code: impl.OpStop, A: 3}, true}, {impl.Call{Code: impl.OpStop, A: 4}, false}, {impl.Call{Code: impl.OpStop, A: -1}, false},
	{impl.Call{Code: impl.OpStop, A: 3, B: 1}, false}, {impl.Call{Code: impl.OpStop, A: 3, C: 1}, false}, {impl.Call{Code: impl.OpStop, A: 3, B: -1}, false}, {impl.Call{Code: impl.OpStop, A: 3, C: -1}, false},
	{impl.Call{Code: impl.OpReset}, true}, {impl.Call{Code: impl.OpReset, A: 3, B: timeLimit}, true}, {impl.Call{Code: impl.OpReset, A: 4}, false}, {impl.Call{Code: impl.OpReset, A: -1}, false},
	{impl.Call{Code: impl.OpReset, B: timeLimit + 1}, false}, {impl.Call{Code: impl.OpReset, B: -1}, false}, {impl.Call{Code: impl.OpReset, C: 1}, false}, {impl.Call{Code: impl.OpReset, C: -1}, false},
	{impl.Call{Code: impl.OpCheck}, true}, {impl.Call{Code: impl.OpCheck, A: 1}, true}, {impl.Call{Code: impl.OpCheck, A: 2}, false}, {impl.Call{Code: impl.OpCheck, A: -1}, false},
	{impl.Call{Code: impl.OpCheck, B: 1}, false}, {impl.Call{Code: impl.OpCheck, C: 1}, false}, {impl.Call{Code: impl.OpCheck, B: -1}, false}, {impl.Call{Code: impl.OpCheck, C: -1}, false},
	{impl.Call{Code: impl.OpMove, B: 1}, true}, {impl.Call{Code: impl.OpMove, A: 1}, true}, {impl.Call{Code: impl.OpMove}, false}, {impl.Call{Code: impl.OpMove, A: 1, B: 1}, false},
	{impl.Call{Code: impl.OpMove, A: 2, B: 1}, false}, {impl.Call{Code: impl.OpMove, A: -1, B: 1}, false}, {impl.Call{Code: impl.OpMove, A: 1, B: 2}, false}, {impl.Call{Code: impl.OpMove, A: 1, B: -1}, false},
	{impl.Call{Code: impl.OpMove, A: 1, C: 1}, false}, {impl.Call{Code: impl.OpMove, A: 1, C: -1}, false},
	{impl.Call{Code: impl.OpRecv}, true}, {impl.Call{Code: impl.OpRecv, A: 3}, true}, {impl.Call{Code: impl.OpRecv, A: 4}, false}, {impl.Call{Code: impl.OpRecv, A: -1}, false},
	{impl.Call{Code: impl.OpRecv, B: 1}, false}, {impl.Call{Code: impl.OpRecv, C: 1}, false}, {impl.Call{Code: impl.OpRecv, B: -1}, false}, {impl.Call{Code: impl.OpRecv, C: -1}, false},
	{impl.Call{Code: 7}, false}, {impl.Call{Code: 7, A: 1, B: 1, C: 1}, false}, {impl.Call{Code: -1}, false}, {impl.Call{A: 1}, false}, {impl.Call{B: 1}, false}, {impl.Call{C: 1}, false},
}

func TestHandOkCallsWrittenOut(t *testing.T) {
	for _, c := range writtenCalls {
		for at := range int64(atLimit + 1) {
			checkHandOk(t, writtenPlan, impl.Hand{At: at, Call: c.call, Timer: -1}, c.want)
		}
	}
}

// smallCalls are all mixtures of small numbers.
func smallCalls() []impl.Call {
	list := []impl.Call{}
	for code := int64(-1); code <= codeLimit+2; code++ {
		for a := int64(-1); a <= procsLimit+1; a++ {
			for b := int64(-1); b <= procsLimit+1; b++ {
				for _, c := range []int64{-1, 0, 1, timeLimit} {
					list = append(list, impl.Call{Code: code, A: a, B: b, C: c})
				}
			}
		}
	}
	return list
}

// At rest and elsewhere, in plans of each number of processors, and of timers about it.
func TestHandOkCallsAsTold(t *testing.T) {
	right := map[int64]int{}
	for procs := int64(1); procs <= procsLimit; procs++ {
		p := impl.Plan{Procs: procs, Workers: 8, Timers: 4}
		for _, call := range smallCalls() {
			want := expectedCallRight(p, call)
			checkHandOk(t, p, impl.Hand{At: impl.AtTake, Call: call}, want)
			checkHandOk(t, p, impl.Hand{Call: call}, want || call == impl.Call{})
			if want {
				right[call.Code]++
			}
		}
	}
	for code := int64(1); code <= codeLimit; code++ {
		if right[code] < 20 {
			t.Errorf("of Code %d only %d were right", code, right[code])
		}
	}
}

func TestNewHandFieldByField(t *testing.T) {
	h := impl.NewHand()
	if h.At != 0 || h.Call.Code != 0 || h.Call.A != 0 || h.Call.B != 0 || h.Call.C != 0 || h.Timer != -1 || h.When != 0 || h.Had || h.Count != 0 || h.Begin != 0 || h.Reply != 0 || h.Out != 0 {
		t.Errorf("%+v", h)
	}
}

// manyNumbers are all that the document's limits are about, and what is far outside.
func manyNumbers() []int64 {
	return slices.Concat(edges, []int64{4, 10, 17, atLimit, atLimit + 1, countLimit - 1, countLimit, countLimit + 1, nowLimit - 1, nowLimit, nowLimit + 1})
}

func TestRestingFieldByField(t *testing.T) {
	for _, reply := range manyNumbers() {
		for _, out := range manyNumbers() {
			h := impl.Resting(reply, out)
			if h.Reply != reply || h.Out != out {
				t.Errorf("Resting(%d, %d) is %+v", reply, out, h)
			}
			if h.At != 0 || h.Call.Code != 0 || h.Call.A != 0 || h.Call.B != 0 || h.Call.C != 0 || h.Timer != -1 || h.When != 0 || h.Had || h.Count != 0 || h.Begin != 0 {
				t.Errorf("Resting(%d, %d) keeps something: %+v", reply, out, h)
			}
		}
	}
}

// Promise 7: who rests keeps nothing but what was answered: without that it is a new hand, whatever was answered before.
func TestPromise7WhoRestsKeepsNothing(t *testing.T) {
	if impl.Resting(0, 0) != impl.NewHand() {
		t.Errorf("%+v is not a new hand", impl.Resting(0, 0))
	}
	for _, reply := range manyNumbers() {
		for _, out := range manyNumbers() {
			h := impl.Resting(reply, out)
			h.Reply, h.Out = 0, 0
			if h != impl.NewHand() || impl.NewHand() != (impl.Hand{Timer: -1}) {
				t.Fatalf("after Resting(%d, %d) there is left %+v", reply, out, h)
			}
		}
	}
}

// Promise 7: who rests is right in each plan, for nothing is kept that a plan could lack; only the answer itself has limits.
func TestPromise7WhoRestsIsRightInEachPlan(t *testing.T) {
	for procs := int64(1); procs <= procsLimit; procs++ {
		for workers := int64(1); workers <= workersLimit; workers++ {
			for timers := int64(1); timers <= timersLimit; timers++ {
				p := impl.Plan{Procs: procs, Workers: workers, Timers: timers}
				checkHandOk(t, p, impl.NewHand(), true)
				for reply := int64(-1); reply <= replyLimit+1; reply++ {
					for _, out := range []int64{-1, 0, timersLimit, timeLimit, timeLimit + 1} {
						checkHandOk(t, p, impl.Resting(reply, out), reply >= 0 && reply <= 5 && out >= 0 && out <= timeLimit)
					}
				}
			}
		}
	}
	for _, reply := range manyNumbers() {
		for _, out := range manyNumbers() {
			checkHandOk(t, rightPlans[0], impl.Resting(reply, out), reply >= 0 && reply <= 5 && out >= 0 && out <= timeLimit)
		}
	}
}

// Promise 7: of two that are the same but that one rests, only the one that rests may be without a Call.
func TestPromise7OnlyWhoRestsHasNoCall(t *testing.T) {
	for _, p := range handPlans {
		for at := int64(-1); at <= atLimit+1; at++ {
			h := impl.Resting(impl.RpNo, 4)
			h.At = at
			checkHandOk(t, p, h, at == impl.AtRest)
		}
	}
}

// checkHandAnswers sees that each function answers as told, always the same, and that the arguments stay.
func checkHandAnswers(t *testing.T, p impl.Plan, h impl.Hand) {
	t.Helper()
	defer func() {
		if e := recover(); e != nil {
			t.Fatalf("panic at %v, %+v: %v", p, h, e)
		}
	}()
	givenPlan, given := p, h
	want := expectedHandOk(p, h)
	for range 2 {
		if impl.HandOk(p, h) != want {
			t.Fatalf("HandOk(%v, %+v) is not %v", p, h, want)
		}
		if rest := impl.Resting(h.Reply, h.Out); rest != (impl.Hand{Timer: -1, Reply: given.Reply, Out: given.Out}) {
			t.Fatalf("Resting(%d, %d) is %+v", h.Reply, h.Out, rest)
		}
		if impl.NewHand() != (impl.Hand{Timer: -1}) {
			t.Fatalf("NewHand is %+v", impl.NewHand())
		}
	}
	if p != givenPlan || h != given {
		t.Fatalf("%v or %+v did not stay", givenPlan, given)
	}
}

// wildPlans are not right, and far outside.
var wildPlans = []impl.Plan{{}, {Procs: math.MaxInt64, Workers: math.MaxInt64, Timers: math.MaxInt64}, {Procs: math.MinInt64, Workers: math.MinInt64, Timers: math.MinInt64},
	{Procs: 1, Workers: 1, Timers: math.MinInt64}, {Procs: math.MinInt64, Workers: 1, Timers: 1}, {Procs: 1, Workers: 0, Timers: 1}, {Procs: 2, Workers: 3, Timers: timersLimit + 1}}

// wildCalls are of each Code, and of none, with numbers at all limits and far outside.
func wildCalls() []impl.Call {
	list := []impl.Call{{}, {Code: 1, B: 5}, {Code: 5, B: 1}, {Code: 9, A: 9}}
	for _, n := range manyNumbers() {
		for code := int64(-1); code <= codeLimit+1; code++ {
			list = append(list, impl.Call{Code: code, A: n}, impl.Call{Code: code, A: n, B: n}, impl.Call{Code: code, B: n}, impl.Call{Code: code, A: n, B: n, C: n}, impl.Call{Code: code, C: n}, impl.Call{Code: n, A: code})
		}
	}
	return list
}

// wildHands have one number, or all, at all limits and far outside.
func wildHands() []impl.Hand {
	list := []impl.Hand{}
	for _, n := range manyNumbers() {
		for _, c := range []impl.Call{{}, {Code: 1, B: 5}, {Code: 5, B: 1}, {Code: 9, A: 9}} {
			for _, f := range handFields {
				h := impl.Hand{At: impl.AtLook, Call: c, Timer: -1}
				*f.at(&h) = n
				list = append(list, h)
			}
			list = append(list, impl.Hand{At: n, Call: c, Timer: n, When: n, Had: true, Count: n, Begin: n, Reply: n, Out: n})
		}
	}
	return list
}

// Promise 19: these functions answer at every argument, and none panics; the arguments stay.
func TestPromise19HandsAnswerEverywhere(t *testing.T) {
	for _, p := range slices.Concat(wildPlans, handPlans) {
		for _, h := range wildHands() {
			checkHandAnswers(t, p, h)
		}
		for _, c := range wildCalls() {
			for _, at := range []int64{math.MinInt64, -1, impl.AtRest, impl.AtAlloc, impl.AtTake, atLimit + 1, math.MaxInt64} {
				checkHandAnswers(t, p, impl.Hand{At: at, Call: c})
			}
		}
	}
}

// anyHand is of numbers at random, most of them right; where wrong is greater than 0, one in so many is any number.
func anyHand(r *rand.Rand, p impl.Plan, wrong int) impl.Hand {
	many := manyNumbers()
	h := impl.Hand{Had: r.Intn(2) == 1}
	if calls := rightCalls(p); r.Intn(4) > 0 {
		h.Call = calls[r.Intn(len(calls))]
	}
	for _, f := range handFields {
		*f.at(&h) = f.least + r.Int63n(f.most(p)-f.least+1)
		if r.Intn(wrong) == 0 {
			*f.at(&h) = many[r.Intn(len(many))]
		}
	}
	for _, f := range callFields {
		if r.Intn(wrong) == 0 {
			*f(&h.Call) = many[r.Intn(len(many))]
		}
	}
	if r.Intn(3) == 0 {
		h.At = 0
	}
	return h
}

func TestHandOkAsToldOfMixtures(t *testing.T) {
	r := rand.New(rand.NewSource(7))
	right, all := 0, 20000
	for range all {
		p := handPlans[r.Intn(len(handPlans))]
		h := anyHand(r, p, 20)
		checkHandAnswers(t, p, h)
		if expectedHandOk(p, h) {
			right++
		}
	}
	if right < all/10 || right > all*9/10 {
		t.Errorf("%d of %d were right", right, all)
	}
}

// Promise 19: answers are new: what is written into one is not seen in the next one.
func TestPromise19HandsAreNew(t *testing.T) {
	for _, made := range []func() impl.Hand{impl.NewHand, func() impl.Hand { return impl.Resting(3, 8) }} {
		h := made()
		before := h
		for _, f := range handFields {
			*f.at(&h) = 77
		}
		for _, f := range callFields {
			*f(&h.Call) = 77
		}
		h.Had, h.Call.Code = true, 77
		if made() != before {
			t.Errorf("%+v came to be %+v", before, made())
		}
	}
}
