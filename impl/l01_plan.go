package impl

const MaxProcs = 6
const MaxWorkers = 8
const MaxTimers = 30
const MaxTime = 1000000000

type Plan struct {
	Procs   int64
	Workers int64
	Timers  int64
}

func PlanOk(p Plan) bool { return p.right() }

func HomeOf(p Plan, w int64) int64 { return answerWhere(p.hasWorker, p.home, w) }

func After(time int64, delay int64) int64 {
	if !isTime(time) {
		return -1
	}
	// The delay is cut before it is added: the sum of a time and any int64 could wrap around.
	return min(time+min(max(delay, 0), MaxTime), MaxTime)
}

func (p Plan) right() bool {
	return within(p.Procs, 1, MaxProcs) && within(p.Workers, 1, MaxWorkers) && within(p.Timers, 1, MaxTimers)
}

// A plan that is not right has no workers, so that whoever is there has a processor to divide by.
func (p Plan) hasWorker(w int64) bool { return p.right() && within(w, 0, p.Workers-1) }

func (p Plan) hasProc(i int64) bool { return p.right() && within(i, 0, p.Procs-1) }

// Whether there is such a timer, only a memory can tell.
func (p Plan) mayHaveTimer(t int64) bool { return p.right() && within(t, 0, p.Timers-1) }

func (p Plan) home(w int64) int64 { return w % p.Procs }

func isTime(time int64) bool { return within(time, 0, MaxTime) }

func within(n int64, least int64, most int64) bool { return least <= n && n <= most }

// The check comes before the answer, for the answer may only be worked out for what is there.
func answerWhere(there func(int64) bool, answer func(int64) int64, n int64) int64 {
	if !there(n) {
		return -1
	}
	return answer(n)
}
