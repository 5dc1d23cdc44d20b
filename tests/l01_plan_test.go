package tests

import (
	"math"
	"testing"

	"loop.example/g00706/impl"
)

// planField is one number of a plan, with the limits that chapter 1 names for it.
type planField struct {
	name  string
	least int64
	most  int64
	put   func(p *impl.Plan, n int64)
}

func planFields() []planField {
	return []planField{
		{"Workers", 1, 8, func(p *impl.Plan, n int64) { p.Workers = n }},
		{"Tasks", 1, 30, func(p *impl.Plan, n int64) { p.Tasks = n }},
		{"Levels", 1, 4, func(p *impl.Plan, n int64) { p.Levels = n }},
		{"Tokens", 0, 4, func(p *impl.Plan, n int64) { p.Tokens = n }},
		{"Futures", 0, 4, func(p *impl.Plan, n int64) { p.Futures = n }},
	}
}

// rightPlans are plans that stand at different places within the limits, so that no field's check can borrow another field's number.
func rightPlans() []impl.Plan {
	return []impl.Plan{
		{Workers: 1, Tasks: 1, Levels: 1, Tokens: 0, Futures: 0},
		{Workers: 8, Tasks: 30, Levels: 4, Tokens: 4, Futures: 4},
		{Workers: 3, Tasks: 10, Levels: 3, Tokens: 2, Futures: 2},
		{Workers: 8, Tasks: 1, Levels: 1, Tokens: 4, Futures: 0},
		{Workers: 1, Tasks: 30, Levels: 4, Tokens: 0, Futures: 4},
	}
}

// oddNumbers are out of every range of chapter 1; the middle ones would be in range if their upper bits were lost.
func oddNumbers() []int64 {
	return []int64{
		math.MinInt64, math.MinInt64 + 1, math.MinInt32, -256, -1,
		31, 256, 257, 65536 + 1, 1 << 31, 1<<32 + 1, 1 << 62, math.MaxInt64 - 1, math.MaxInt64,
	}
}

func TestPlanLimitsAreThoseOfTheDocument(t *testing.T) {
	if impl.MaxWorkers != 8 || impl.MaxTasks != 30 || impl.MaxLevels != 4 || impl.MaxKinds != 4 {
		t.Fatal(impl.MaxWorkers, impl.MaxTasks, impl.MaxLevels, impl.MaxKinds)
	}
}

func TestPlanIsRightWithinEachLimit(t *testing.T) {
	for _, p := range rightPlans() {
		for _, f := range planFields() {
			for n := f.least; n <= f.most; n++ {
				q := p
				f.put(&q, n)
				if !impl.PlanOk(q) {
					t.Errorf("%s %d: %+v is right", f.name, n, q)
				}
				if !impl.WorkerIn(q, 0) || !impl.LevelIn(q, 0) {
					t.Errorf("%s %d: %+v has a worker 0 and a level 0", f.name, n, q)
				}
			}
		}
	}
}

func TestPlanWrongInOneFieldHasNothing(t *testing.T) {
	for _, p := range rightPlans() {
		for _, f := range planFields() {
			for _, n := range append(oddNumbers(), f.least-1, f.most+1) {
				q := p
				f.put(&q, n)
				if impl.PlanOk(q) {
					t.Errorf("%s %d: %+v is not right", f.name, n, q)
				}
				for k := int64(-1); k <= 9; k++ {
					if impl.WorkerIn(q, k) || impl.LevelIn(q, k) {
						t.Errorf("%s %d: %+v has no worker or level %d", f.name, n, q, k)
					}
				}
			}
		}
	}
	if impl.PlanOk(impl.Plan{}) || impl.WorkerIn(impl.Plan{}, 0) || impl.LevelIn(impl.Plan{}, 0) {
		t.Error("the zero plan is not right")
	}
}

func TestPlanOkAtAllCorners(t *testing.T) {
	fields := planFields()
	var try func(p impl.Plan, i int, right bool)
	try = func(p impl.Plan, i int, right bool) {
		if i == len(fields) {
			if impl.PlanOk(p) != right || impl.WorkerIn(p, 0) != right || impl.LevelIn(p, 0) != right {
				t.Errorf("%+v: right is %v", p, right)
			}
			return
		}
		f := fields[i]
		for _, n := range []int64{math.MinInt64, f.least - 1, f.least, f.most, f.most + 1, math.MaxInt64} {
			q := p
			f.put(&q, n)
			try(q, i+1, right && f.least <= n && n <= f.most)
		}
	}
	try(impl.Plan{}, 0, true)
}

func TestWorkersAndLevelsAreThoseOfThePlan(t *testing.T) {
	for workers := int64(1); workers <= 8; workers++ {
		for levels := int64(1); levels <= 4; levels++ {
			p := impl.Plan{Workers: workers, Tasks: 9, Levels: levels, Tokens: 2, Futures: 3}
			for n := int64(-3); n <= 12; n++ {
				if got := impl.WorkerIn(p, n); got != (n >= 0 && n < workers) {
					t.Errorf("%+v: worker %d: %v", p, n, got)
				}
				if got := impl.LevelIn(p, n); got != (n >= 0 && n < levels) {
					t.Errorf("%+v: level %d: %v", p, n, got)
				}
			}
			for _, n := range append(oddNumbers(), 1<<32, -1<<32) {
				if impl.WorkerIn(p, n) || impl.LevelIn(p, n) {
					t.Errorf("%+v: there is no worker or level %d", p, n)
				}
			}
		}
	}
}

// planAnswers asks all of chapter 1 of one plan and one number.
func planAnswers(p impl.Plan, n int64) [3]bool {
	return [3]bool{impl.PlanOk(p), impl.WorkerIn(p, n), impl.LevelIn(p, n)}
}

func TestPlanFunctionsAnswerAtEveryArgument(t *testing.T) {
	defer func() {
		if r := recover(); r != nil {
			t.Fatal("a function of chapter 1 panics:", r)
		}
	}()
	ends := []int64{math.MinInt64, -1, 0, 1, 4, 8, 30, math.MaxInt64}
	type question struct {
		p impl.Plan
		n int64
	}
	var asked []question
	var told [][3]bool
	for _, p := range rightPlans() {
		for _, f := range planFields() {
			for _, e := range ends {
				for _, n := range ends {
					q := p
					f.put(&q, e)
					kept := q
					asked = append(asked, question{q, n})
					told = append(told, planAnswers(q, n))
					if q != kept {
						t.Fatal("the plan was changed:", kept, q)
					}
				}
			}
		}
	}
	// Asked again from the last one back, the answers are the same: none depends on what was asked before.
	for i := len(asked) - 1; i >= 0; i-- {
		if again := planAnswers(asked[i].p, asked[i].n); again != told[i] {
			t.Errorf("%+v: %v, then %v", asked[i], told[i], again)
		}
	}
}
