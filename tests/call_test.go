package tests

import (
	"math"
	"math/rand"
	"slices"
	"testing"

	"loop.example/g00743/impl"
)

// startAts are where each Code begins, by the numbers of the document.
var startAts = map[int64]int64{1: 1, 2: 5, 3: 5, 4: 8, 5: 14, 6: 18}

func TestCallCodes(t *testing.T) {
	for want, code := range []int64{impl.CdOk, impl.CdBusy, impl.CdUnfit, impl.CdWrong} {
		if code != int64(want) {
			t.Errorf("the code that stands at %d is %d", want, code)
		}
	}
}

// The document's own words, the plan's numbers written out.
func expectedCallOk(p impl.Plan, c impl.Call) bool {
	if p.Procs < 1 || p.Procs > 6 || p.Workers < 1 || p.Workers > 8 || p.Timers < 1 || p.Timers > 30 {
		return false
	}
	return expectedCallRight(p, c)
}

// The codes in the order of the document, but the one for what is not right first.
func expectedCalled(p impl.Plan, h impl.Hand, c impl.Call) (impl.Hand, int64) {
	switch {
	case !expectedHandOk(p, h):
		return impl.Hand{}, 3
	case h.At != 0:
		return h, 1
	case !expectedCallOk(p, c):
		return h, 2
	}
	return impl.Hand{At: startAts[c.Code], Call: c, Timer: -1}, 0
}

func checkCallOk(t *testing.T, p impl.Plan, c impl.Call, want bool) {
	t.Helper()
	if got := impl.CallOk(p, c); got != want {
		t.Errorf("CallOk(%v, %+v) is %v", p, c, got)
	}
}

func checkCalled(t *testing.T, p impl.Plan, h impl.Hand, c impl.Call, want impl.Hand, code int64) {
	t.Helper()
	if got, k := impl.Called(p, h, c); got != want || k != code {
		t.Errorf("Called(%v, %+v, %+v) is %+v, %d; it is told as %+v, %d", p, h, c, got, k, want, code)
	}
}

func TestCallOkWrittenOut(t *testing.T) {
	for _, c := range writtenCalls {
		checkCallOk(t, writtenPlan, c.call, c.want)
	}
}

func TestCallOkOrdinary(t *testing.T) {
	p := impl.Plan{Procs: 3, Workers: 6, Timers: 10}
	for _, c := range []callCase{
		{impl.Call{Code: impl.OpNew, A: impl.KdMail, B: 50}, true},
		{impl.Call{Code: impl.OpNew, A: impl.KdFunc, B: 50, C: 7}, true},
		{impl.Call{Code: impl.OpStop, A: 9}, true},
		{impl.Call{Code: impl.OpReset, A: 9, B: 50}, true},
		{impl.Call{Code: impl.OpCheck, A: 2}, true},
		{impl.Call{Code: impl.OpMove, A: 2, B: 1}, true},
		{impl.Call{Code: impl.OpRecv, A: 9}, true},
		{impl.Call{}, false},
		{impl.Call{Code: impl.OpStop, A: 10}, false},
		{impl.Call{Code: impl.OpReset, A: 10, B: 50}, false},
		{impl.Call{Code: impl.OpReset, A: 9, B: 50, C: 7}, false}, // a Period is named of new ones only
		{impl.Call{Code: impl.OpCheck, A: 3}, false},
		{impl.Call{Code: impl.OpCheck, A: 5}, false}, // a worker, but no processor
		{impl.Call{Code: impl.OpMove, A: 2, B: 2}, false},
		{impl.Call{Code: impl.OpMove, A: 9, B: 8}, false}, // timers, but no processors
		{impl.Call{Code: impl.OpRecv, A: 10}, false},
	} {
		checkCallOk(t, p, c.call, c.want)
	}
}

func TestCallOkEachCodeRight(t *testing.T) {
	for _, p := range handPlans {
		for _, c := range rightCalls(p) {
			checkCallOk(t, p, c, true)
		}
	}
}

func TestCallOkWithOneNumberWrong(t *testing.T) {
	for _, p := range handPlans {
		for _, c := range nearCalls(p) {
			checkCallOk(t, p, c.call, c.want)
		}
	}
}

func TestCallOkOfNoSuchCode(t *testing.T) {
	for _, p := range handPlans {
		for _, code := range []int64{math.MinInt64, math.MinInt64 + 1, -1 << 32, -6, -2, -1, 0, 7, 8, 100, 1 << 32, 1<<32 + 1, 1<<32 + 6, math.MaxInt64 - 1, math.MaxInt64} {
			for _, c := range rightCalls(p) {
				c.Code = code
				checkCallOk(t, p, c, false)
			}
		}
	}
}

// Timers and processors are those of this plan, not those that any plan may have.
func TestCallOkOfEachTimerAndProcessorOfThePlan(t *testing.T) {
	for procs := int64(1); procs <= procsLimit; procs++ {
		for timers := int64(1); timers <= timersLimit; timers++ {
			p := impl.Plan{Procs: procs, Workers: workersLimit, Timers: timers}
			for n := int64(-2); n <= timersLimit+2; n++ {
				for _, code := range []int64{impl.OpStop, impl.OpReset, impl.OpRecv} {
					checkCallOk(t, p, impl.Call{Code: code, A: n}, n >= 0 && n < timers)
				}
				checkCallOk(t, p, impl.Call{Code: impl.OpCheck, A: n}, n >= 0 && n < procs)
			}
		}
	}
}

// From each processor to each other one, but not to itself.
func TestCallOkMovesBetweenTwoProcessors(t *testing.T) {
	for procs := int64(1); procs <= procsLimit; procs++ {
		p := impl.Plan{Procs: procs, Workers: workersLimit, Timers: timersLimit}
		for a := int64(-2); a <= procsLimit+1; a++ {
			for b := int64(-2); b <= procsLimit+1; b++ {
				checkCallOk(t, p, impl.Call{Code: impl.OpMove, A: a, B: b}, a != b && min(a, b) >= 0 && max(a, b) < procs)
			}
		}
	}
}

func TestCallOkWhatIsNotNamedIsZero(t *testing.T) {
	for _, p := range handPlans {
		for _, base := range rightCalls(p) {
			for i, f := range callFields {
				if callTable[base.Code][i] != "" {
					continue
				}
				for _, n := range []int64{math.MinInt64, -1, 1, 2, timeLimit, 1 << 32, math.MaxInt64} {
					c := base
					*f(&c) = n
					checkCallOk(t, p, c, false)
				}
			}
		}
	}
}

// In a plan that is not right nothing can be asked, not even for a new timer, which names nothing of the plan.
func TestCallOkPlanNotRight(t *testing.T) {
	for _, base := range handPlans {
		for _, p := range wrongPlans(base) {
			for _, c := range slices.Concat(rightCalls(base), []impl.Call{{}, {Code: impl.OpNew}, {Code: impl.OpNew, A: impl.KdFunc, B: timeLimit, C: timeLimit}}) {
				checkCallOk(t, p, c, false)
			}
		}
	}
}

func TestCallOkAsTold(t *testing.T) {
	for procs := int64(1); procs <= procsLimit; procs++ {
		p := impl.Plan{Procs: procs, Workers: workersLimit, Timers: 4}
		for _, c := range smallCalls() {
			checkCallOk(t, p, c, expectedCallOk(p, c))
		}
	}
}

func TestCalledOrdinary(t *testing.T) {
	p := impl.Plan{Procs: 2, Workers: 3, Timers: 10}
	kept := impl.Hand{Timer: 7, When: 40, Had: true, Count: 3, Begin: 17, Reply: impl.RpYes, Out: 9}
	for _, c := range []struct {
		call impl.Call
		at   int64
	}{
		{impl.Call{Code: impl.OpNew, A: impl.KdFunc, B: 5, C: 7}, impl.AtAlloc},
		{impl.Call{Code: impl.OpStop, A: 9}, impl.AtLook},
		{impl.Call{Code: impl.OpReset, A: 9, B: 5}, impl.AtLook},
		{impl.Call{Code: impl.OpCheck, A: 1}, impl.AtGrab},
		{impl.Call{Code: impl.OpMove, A: 1}, impl.AtLow},
		{impl.Call{Code: impl.OpRecv, A: 9}, impl.AtTake},
	} {
		for _, h := range []impl.Hand{impl.NewHand(), {}, impl.Resting(impl.RpNo, 4), kept} {
			checkCalled(t, p, h, c.call, impl.Hand{At: c.at, Call: c.call, Timer: -1}, impl.CdOk)
		}
	}
}

// restingHands rest, and hold all that a hand may hold: at its least and at its greatest, with each right Call and with none.
func restingHands(p impl.Plan) []impl.Hand {
	list := []impl.Hand{impl.NewHand(), {}}
	for _, c := range append(rightCalls(p), impl.Call{}) {
		for _, h := range handsWith(p, c) {
			if h.At == 0 {
				list = append(list, h)
			}
		}
		for _, f := range handFields[1:] {
			for _, n := range []int64{f.least, f.most(p) / 2, f.most(p)} {
				h := impl.NewHand()
				h.Call = c
				*f.at(&h) = n
				list = append(list, h)
			}
		}
	}
	return list
}

// busyHands are at each At but at rest, with each right Call, each number at its least and at its greatest.
func busyHands(p impl.Plan) []impl.Hand {
	list := []impl.Hand{}
	for _, c := range rightCalls(p) {
		for _, h := range handsWith(p, c) {
			if h.At != 0 {
				list = append(list, h)
			}
		}
	}
	return list
}

// brokenHands have one number that is out of range, or a Call that is not right, at rest and elsewhere.
func brokenHands(p impl.Plan) []impl.Hand {
	return brokenFrom(p, impl.NewHand(), impl.Hand{At: impl.AtGrab, Call: impl.Call{Code: impl.OpCheck}, Timer: -1})
}

// brokenFrom are these in all ways in which they are broken in one thing.
func brokenFrom(p impl.Plan, bases ...impl.Hand) []impl.Hand {
	list := []impl.Hand{}
	for _, base := range bases {
		for _, f := range handFields {
			for _, n := range []int64{math.MinInt64, f.least - 1, f.most(p) + 1, math.MaxInt64} {
				h := base
				*f.at(&h) = n
				list = append(list, h)
			}
		}
		for _, c := range unfitCalls(p) {
			h := base
			h.Call = c
			if h.At != 0 || c != (impl.Call{}) {
				list = append(list, h)
			}
		}
	}
	return list
}

func unfitCalls(p impl.Plan) []impl.Call {
	list := []impl.Call{{}, {Code: codeLimit + 1}, {Code: -1}, {Code: math.MinInt64}, {Code: math.MaxInt64}, {B: 1}}
	for _, c := range nearCalls(p) {
		if !c.want {
			list = append(list, c.call)
		}
	}
	return list
}

// What the hand at rest held is not taken along, and of the Call nothing is changed.
func TestCalledFromAllHandsAtRest(t *testing.T) {
	for _, p := range handPlans {
		for _, h := range restingHands(p) {
			for _, c := range rightCalls(p) {
				got, code := impl.Called(p, h, c)
				if code != impl.CdOk || got.At != startAts[c.Code] || got.Call.Code != c.Code || got.Call.A != c.A || got.Call.B != c.B || got.Call.C != c.C {
					t.Errorf("Called(%v, %+v, %+v) is %+v, %d", p, h, c, got, code)
				}
				if got.Timer != -1 || got.When != 0 || got.Had || got.Count != 0 || got.Begin != 0 || got.Reply != 0 || got.Out != 0 {
					t.Errorf("Called(%v, %+v, %+v) keeps something: %+v", p, h, c, got)
				}
			}
		}
	}
}

func TestCalledUnfitLeavesTheHand(t *testing.T) {
	for _, p := range handPlans {
		for _, h := range restingHands(p) {
			for _, c := range unfitCalls(p) {
				checkCalled(t, p, h, c, h, impl.CdUnfit)
			}
		}
	}
}

// Whoever is busy is told so, whether the call is right or not, and stays as he is.
func TestCalledBusyLeavesTheHand(t *testing.T) {
	for _, p := range handPlans {
		for _, h := range busyHands(p) {
			for _, c := range slices.Concat(rightCalls(p), unfitCalls(p)) {
				checkCalled(t, p, h, c, h, impl.CdBusy)
			}
		}
	}
}

// A hand that is not right goes ahead of all else: the call may be right or not, the hand busy or not.
func TestCalledHandNotRight(t *testing.T) {
	for _, p := range handPlans {
		for _, h := range brokenHands(p) {
			for _, c := range slices.Concat(rightCalls(p), unfitCalls(p)) {
				checkCalled(t, p, h, c, impl.Hand{}, impl.CdWrong)
			}
		}
	}
}

func TestCalledPlanNotRight(t *testing.T) {
	for _, base := range handPlans {
		hands := slices.Concat([]impl.Hand{impl.NewHand(), impl.Resting(impl.RpYes, 3)}, busyHands(base)[:8], brokenHands(base)[:8])
		for _, p := range wrongPlans(base) {
			for _, h := range hands {
				for _, c := range slices.Concat(rightCalls(base), []impl.Call{{}, {Code: codeLimit + 1}, {Code: impl.OpNew, A: 2}}) {
					checkCalled(t, p, h, c, impl.Hand{}, impl.CdWrong)
				}
			}
		}
	}
}

// Where several codes apply: by number, each mixture of what may be wrong.
func TestCalledOrderOfCodes(t *testing.T) {
	right, wrong := impl.Plan{Procs: 2, Workers: 3, Timers: 4}, impl.Plan{Procs: 2, Workers: 3, Timers: 31}
	check, unfit := impl.Call{Code: 4, A: 1}, impl.Call{Code: 4, A: 2}
	rest, busy := impl.Hand{Timer: -1, Reply: 2, Out: 9}, impl.Hand{At: 10, Call: check, Timer: 3, Count: 2, Begin: 7}
	badRest, badBusy := impl.Hand{Timer: -2}, impl.Hand{At: 10, Timer: -1}
	for _, c := range []struct {
		p    impl.Plan
		h    impl.Hand
		call impl.Call
		want impl.Hand
		code int64
	}{
		{right, rest, check, impl.Hand{At: 8, Call: check, Timer: -1}, 0},
		{right, rest, unfit, rest, 2},
		{right, busy, check, busy, 1},
		{right, busy, unfit, busy, 1},
		{right, badRest, check, impl.Hand{}, 3},
		{right, badRest, unfit, impl.Hand{}, 3},
		{right, badBusy, check, impl.Hand{}, 3},
		{right, badBusy, unfit, impl.Hand{}, 3},
		{wrong, rest, check, impl.Hand{}, 3},
		{wrong, rest, unfit, impl.Hand{}, 3},
		{wrong, busy, check, impl.Hand{}, 3},
		{wrong, busy, unfit, impl.Hand{}, 3},
		{wrong, badRest, check, impl.Hand{}, 3},
		{wrong, badBusy, unfit, impl.Hand{}, 3},
	} {
		checkCalled(t, c.p, c.h, c.call, c.want, c.code)
	}
}

// Promise 8: who was asked is busy with just that, and whatever he is asked then, he is left with what he was asked first.
func TestPromise8AskedOnceAtATime(t *testing.T) {
	for _, p := range handPlans {
		for _, h := range restingHands(p) {
			for _, first := range rightCalls(p) {
				begun, code := impl.Called(p, h, first)
				if code != impl.CdOk || begun.Call != first || begun.At == impl.AtRest || !impl.HandOk(p, begun) {
					t.Fatalf("Called(%v, %+v, %+v) is %+v, %d", p, h, first, begun, code)
				}
				for _, then := range append(rightCalls(p), impl.Call{}, impl.Call{Code: codeLimit + 1}) {
					checkCalled(t, p, begun, then, begun, impl.CdBusy)
				}
			}
		}
	}
}

// Promise 8: what can be asked of one who rests is just what is CallOk; what can't be asked leaves him able to be asked.
func TestPromise8WhatCanBeAsked(t *testing.T) {
	for _, p := range handPlans {
		for _, c := range slices.Concat(smallCalls(), wildCalls()) {
			rest := impl.Resting(impl.RpNo, 6)
			h, code := impl.Called(p, rest, c)
			if impl.CallOk(p, c) != (code == impl.CdOk) || code != impl.CdOk && code != impl.CdUnfit {
				t.Fatalf("CallOk(%v, %+v) is %v, and Called tells %d", p, c, impl.CallOk(p, c), code)
			}
			if code == impl.CdUnfit {
				again := impl.Call{Code: impl.OpRecv}
				checkCalled(t, p, h, again, impl.Hand{At: impl.AtTake, Call: again, Timer: -1}, impl.CdOk)
			}
		}
	}
}

// Promise 8: who has replied can be asked again, and what begins then is the same whatever was asked and replied before.
func TestPromise8AskedAgainAfterTheReply(t *testing.T) {
	for _, p := range handPlans {
		for reply := int64(0); reply <= replyLimit; reply++ {
			for _, out := range []int64{0, 1, timersLimit, timeLimit} {
				for _, c := range rightCalls(p) {
					fresh, code := impl.Called(p, impl.NewHand(), c)
					checkCalled(t, p, impl.Resting(reply, out), c, fresh, code)
				}
			}
		}
	}
}

// checkCallAnswers sees that both functions answer as told, always the same, and that the arguments stay.
func checkCallAnswers(t *testing.T, p impl.Plan, h impl.Hand, c impl.Call) {
	t.Helper()
	defer func() {
		if e := recover(); e != nil {
			t.Fatalf("panic at %v, %+v, %+v: %v", p, h, c, e)
		}
	}()
	givenPlan, givenHand, givenCall := p, h, c
	want, code := expectedCalled(p, h, c)
	for range 2 {
		checkCallOk(t, p, c, expectedCallOk(p, c))
		checkCalled(t, p, h, c, want, code)
	}
	if p != givenPlan || h != givenHand || c != givenCall {
		t.Fatalf("%v, %+v or %+v did not stay", givenPlan, givenHand, givenCall)
	}
}

// Promise 19: both functions answer at every argument, and none panics; the arguments stay.
func TestPromise19CallsAnswerEverywhere(t *testing.T) {
	for _, p := range slices.Concat(wildPlans, handPlans) {
		for _, h := range wildHands() {
			for _, c := range []impl.Call{{}, {Code: impl.OpNew}, {Code: impl.OpMove, B: 1}, {Code: codeLimit + 1, A: math.MaxInt64, B: math.MinInt64}} {
				checkCallAnswers(t, p, h, c)
			}
		}
		for _, c := range wildCalls() {
			for _, h := range []impl.Hand{{}, impl.NewHand(), {Call: c}, {At: impl.AtLook, Call: c}, {At: impl.AtLook, Call: impl.Call{Code: impl.OpStop}}, {At: math.MinInt64, Call: c, Timer: math.MaxInt64}} {
				checkCallAnswers(t, p, h, c)
			}
		}
	}
}

func TestCalledAsToldOfMixtures(t *testing.T) {
	r := rand.New(rand.NewSource(8))
	all := 40000
	codes := map[int64]int{}
	for range all {
		p := handPlans[r.Intn(len(handPlans))]
		h := anyHand(r, p, 40)
		calls := rightCalls(p)
		if r.Intn(2) == 0 {
			calls = unfitCalls(p)
		}
		c := calls[r.Intn(len(calls))]
		checkCallAnswers(t, p, h, c)
		_, code := expectedCalled(p, h, c)
		codes[code]++
	}
	for code := range int64(4) {
		if codes[code] < all/20 {
			t.Errorf("of the code %d there were only %d of %d", code, codes[code], all)
		}
	}
}

// Promise 19: answers are new: what is written into one is seen neither in the hand that was given nor in the next answer.
func TestPromise19CalledHandsAreNew(t *testing.T) {
	p, c := impl.Plan{Procs: 2, Workers: 3, Timers: 4}, impl.Call{Code: impl.OpReset, A: 3, B: 70}
	for _, given := range []impl.Hand{impl.NewHand(), {At: impl.AtLook, Call: c, Timer: 2}, {Timer: -2}} {
		kept := given
		before, code := impl.Called(p, given, c)
		h := before
		for _, f := range handFields {
			*f.at(&h) = 77
		}
		for _, f := range callFields {
			*f(&h.Call) = 77
		}
		h.Had, h.Call.Code = true, 77
		if given != kept {
			t.Errorf("%+v came to be %+v", kept, given)
		}
		checkCalled(t, p, given, c, before, code)
	}
}
