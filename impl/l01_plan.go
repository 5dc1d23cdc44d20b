package impl

const MaxWorkers = 8
const MaxTasks = 30
const MaxLevels = 4
const MaxKinds = 4

type Plan struct {
	Workers int64
	Tasks   int64
	Levels  int64
	Tokens  int64
	Futures int64
}

// between compares only: a sum or a difference could wrap at the ends of int64.
func between(n int64, least int64, most int64) bool {
	return least <= n && n <= most
}

func (p Plan) right() bool {
	return between(p.Workers, 1, MaxWorkers) &&
		between(p.Tasks, 1, MaxTasks) &&
		between(p.Levels, 1, MaxLevels) &&
		between(p.Tokens, 0, MaxKinds) &&
		between(p.Futures, 0, MaxKinds)
}

func (p Plan) hasWorker(w int64) bool {
	return between(w, 0, p.Workers-1)
}

func (p Plan) hasLevel(n int64) bool {
	return between(n, 0, p.Levels-1)
}

// whenRight asks has only of a right plan: in one that is not, no number has a meaning.
func (p Plan) whenRight(has func(int64) bool, n int64) bool {
	return p.right() && has(n)
}

func PlanOk(p Plan) bool {
	return p.right()
}

func WorkerIn(p Plan, w int64) bool {
	return p.whenRight(p.hasWorker, w)
}

func LevelIn(p Plan, n int64) bool {
	return p.whenRight(p.hasLevel, n)
}
