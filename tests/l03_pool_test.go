package tests

import (
	"math"
	"slices"
	"testing"

	"loop.example/g00706/impl"
)

// middlePlan has its numbers far enough from one another that none can stand in for another one.
func middlePlan() impl.Plan {
	return impl.Plan{Workers: 3, Tasks: 10, Levels: 4, Tokens: 2, Futures: 1}
}

func clonePool(x impl.Pool) impl.Pool {
	x.Tasks = slices.Clone(x.Tasks)
	x.Tokens = slices.Clone(x.Tokens)
	x.Futures = slices.Clone(x.Futures)
	return x
}

// samePool takes nil and an empty list for the same value.
func samePool(a impl.Pool, b impl.Pool) bool {
	return slices.Equal(a.Tasks, b.Tasks) && slices.Equal(a.Tokens, b.Tokens) &&
		slices.Equal(a.Futures, b.Futures) && a.Turn == b.Turn && a.Stopped == b.Stopped
}

// watched is a pool whose lists stand in longer arrays, so that a write behind them is seen.
type watched struct {
	pool  impl.Pool
	whole impl.Pool
	kept  impl.Pool
}

func watch(x impl.Pool) watched {
	room := impl.Task{State: 9, Level: 9, Owner: 9, Wait: 9, On: 9, Value: 77, Turn: 77}
	whole := impl.Pool{
		Tasks:   append(slices.Clone(x.Tasks), room, room, room),
		Tokens:  append(slices.Clone(x.Tokens), 77, 77, 77),
		Futures: append(slices.Clone(x.Futures), impl.Future{Value: 77}, impl.Future{Set: true, Value: 77}),
	}
	w := watched{pool: x, whole: whole, kept: clonePool(whole)}
	w.pool.Tasks = whole.Tasks[:len(x.Tasks)]
	w.pool.Tokens = whole.Tokens[:len(x.Tokens)]
	w.pool.Futures = whole.Futures[:len(x.Futures)]
	return w
}

func (w watched) untouched() bool {
	return samePool(w.whole, w.kept)
}

// plainTasks are so many that are ready, each of another turn, all turns below least+count.
func plainTasks(count int64, least int64) []impl.Task {
	var list []impl.Task
	for i := range count {
		list = append(list, impl.Task{State: 1, Owner: -1, Turn: least + i})
	}
	return list
}

// poolOf has room for all turns up to 999998.
func poolOf(p impl.Plan, tasks []impl.Task) impl.Pool {
	return impl.Pool{
		Tasks:   tasks,
		Tokens:  make([]int64, p.Tokens),
		Futures: make([]impl.Future, p.Futures),
		Turn:    999999,
	}
}

// mixedPool has as many tasks as the plan, of every state that fits in, each worker running one where there is room.
func mixedPool(p impl.Plan) impl.Pool {
	x := poolOf(p, plainTasks(p.Tasks, 3))
	last := p.Tasks - 1
	for i := range x.Tasks {
		task := &x.Tasks[i]
		switch id := int64(i); {
		case id < p.Workers:
			task.State, task.Owner = 2, p.Workers-1-id
		case id%6 == 0:
			task.State, task.Wait, task.On = 3, 1, last-id
		case id%6 == 1:
			task.State, task.Wait, task.On = 3, 1, 0
		case id%6 == 2 && p.Tokens > 0:
			task.State, task.Wait, task.On = 3, 2, p.Tokens-1
		case id%6 == 3 && p.Futures > 0:
			task.State, task.Wait, task.On = 3, 3, p.Futures-1
		case id%6 == 4:
			task.State = 4
		case id%6 == 5:
			task.State = 5
		}
		task.Level = int64(i) % p.Levels
		task.Value = 9999
		if task.Wait == 1 && task.On == int64(i) {
			task.On = 0
		}
	}
	return x
}

// edgePool has every number that has a limit at its greatest.
func edgePool(p impl.Plan) impl.Pool {
	x := mixedPool(p)
	x.Turn, x.Stopped = 1000000, true
	for i := range x.Tasks {
		x.Tasks[i].Turn = 999999
	}
	for i := range x.Tokens {
		x.Tokens[i] = 100
	}
	for i := range x.Futures {
		x.Futures[i] = impl.Future{Set: true, Value: 9999}
	}
	return x
}

func rightPools(p impl.Plan) []impl.Pool {
	none := poolOf(p, nil)
	none.Turn = 0
	stopped := mixedPool(p)
	stopped.Stopped = true
	return []impl.Pool{none, poolOf(p, plainTasks(1, 0)), poolOf(p, plainTasks(p.Tasks, 0)), mixedPool(p), stopped, edgePool(p)}
}

// spots are the first, a middle and the last place of a list of that length, each once.
func spots(length int) []int {
	return slices.Compact([]int{0, length / 2, length - 1})
}

func TestPoolLimitIsThatOfTheDocument(t *testing.T) {
	if impl.MaxTokens != 100 {
		t.Fatal(impl.MaxTokens)
	}
}

func TestNewPoolIsRightAndNobodyRunsOrWaits(t *testing.T) {
	ask := func(p impl.Plan) {
		x := impl.NewPool(p)
		want := impl.Pool{Tokens: make([]int64, p.Tokens), Futures: make([]impl.Future, p.Futures), Turn: 1}
		if !samePool(x, want) {
			t.Fatalf("%+v: %+v", p, x)
		}
		if !impl.PoolOk(p, x) {
			t.Fatalf("%+v: a new pool is right", p)
		}
		for n := int64(-2); n <= 9; n++ {
			if impl.RunBy(x, n) != -1 || impl.CountOf(x, n) != 0 {
				t.Fatalf("%+v: in a new pool nobody runs or waits: %d", p, n)
			}
		}
	}
	for _, p := range rightPlans() {
		for _, f := range planFields() {
			for n := f.least; n <= f.most; n++ {
				for _, g := range planFields() {
					for _, k := range []int64{g.least, g.most} {
						q := p
						f.put(&q, n)
						g.put(&q, k)
						ask(q)
					}
				}
			}
		}
	}
}

func TestNewPoolOfAPlanThatIsNotRightIsZero(t *testing.T) {
	for _, p := range rightPlans() {
		for _, f := range planFields() {
			for _, n := range append(oddNumbers(), f.least-1, f.most+1) {
				q := p
				f.put(&q, n)
				if x := impl.NewPool(q); !samePool(x, impl.Pool{}) {
					t.Errorf("%+v: %+v", q, x)
				}
			}
		}
	}
	if x := impl.NewPool(impl.Plan{}); !samePool(x, impl.Pool{}) {
		t.Errorf("the zero plan: %+v", x)
	}
}

func TestNewPoolsShareNoMemory(t *testing.T) {
	for _, p := range append(rightPlans(), impl.Plan{}) {
		first, second := impl.NewPool(p), impl.NewPool(p)
		kept := clonePool(second)
		_ = append(first.Tasks, impl.NewTask(0, 7))
		for i := range first.Tokens[:cap(first.Tokens)] {
			first.Tokens[:cap(first.Tokens)][i] = 50
		}
		for i := range first.Futures[:cap(first.Futures)] {
			first.Futures[:cap(first.Futures)][i] = impl.Future{Set: true, Value: 50}
		}
		if !samePool(second, kept) {
			t.Errorf("%+v: a write into one pool is seen in the other: %+v", p, second)
		}
		for _, list := range [][]int64{second.Tokens[:cap(second.Tokens)], impl.NewPool(p).Tokens} {
			if slices.ContainsFunc(list, func(n int64) bool { return n != 0 }) {
				t.Errorf("%+v: a write into one pool is seen in another: %v", p, list)
			}
		}
		if third := impl.NewPool(p); !samePool(third, kept) {
			t.Errorf("%+v: a write into one pool is seen in the next: %+v", p, third)
		}
	}
}

func TestRightPoolsAreRight(t *testing.T) {
	for _, p := range rightPlans() {
		for i, x := range rightPools(p) {
			if !impl.PoolOk(p, x) {
				t.Errorf("%+v: pool %d is right: %+v", p, i, x)
			}
			x.Stopped = !x.Stopped
			if !impl.PoolOk(p, x) {
				t.Errorf("%+v: pool %d is right, stopped or not: %+v", p, i, x)
			}
		}
	}
}

func TestNoPoolIsRightInAPlanThatIsNot(t *testing.T) {
	for _, p := range rightPlans() {
		for _, x := range rightPools(p) {
			for _, f := range planFields() {
				for _, n := range append(oddNumbers(), f.least-1, f.most+1) {
					q := p
					f.put(&q, n)
					if impl.PoolOk(q, x) {
						t.Errorf("%+v has no right pool: %+v", q, x)
					}
				}
			}
			if impl.PoolOk(impl.Plan{}, x) {
				t.Errorf("the zero plan has no right pool: %+v", x)
			}
		}
		if impl.PoolOk(p, impl.Pool{}) != (p.Tokens == 0 && p.Futures == 0) {
			t.Errorf("%+v: the zero pool is right just where there are no kinds", p)
		}
	}
	if impl.PoolOk(impl.Plan{}, impl.Pool{}) {
		t.Error("the zero pool is not right in the zero plan")
	}
}

func TestPoolHasAtMostAsManyTasksAsThePlan(t *testing.T) {
	for tasks := int64(1); tasks <= 30; tasks++ {
		p := middlePlan()
		p.Tasks = tasks
		for count := int64(0); count <= 33; count++ {
			if got := impl.PoolOk(p, poolOf(p, plainTasks(count, 0))); got != (count <= tasks) {
				t.Errorf("%d tasks where %d may be: %v", count, tasks, got)
			}
		}
	}
	p := middlePlan()
	if impl.PoolOk(p, poolOf(p, plainTasks(5000, 0))) {
		t.Error("5000 tasks")
	}
}

func TestEachTaskOfAPoolIsRight(t *testing.T) {
	wrong := []impl.Task{
		{}, {State: 0, Owner: -1}, {State: 6, Owner: -1}, {State: -1, Owner: -1},
		{State: 1, Owner: -1, Level: -1}, {State: 1, Owner: -1, Level: 4},
		{State: 1, Owner: 0}, {State: 1, Owner: -2}, {State: 2, Owner: -1}, {State: 2, Owner: 3},
		{State: 1, Owner: -1, Wait: 1}, {State: 4, Owner: -1, On: 1}, {State: 5, Owner: -1, Wait: 2},
		{State: 3, Owner: -1}, {State: 3, Owner: -1, Wait: 4}, {State: 3, Owner: -1, Wait: -1},
		{State: 3, Owner: -1, Wait: 1, On: -1}, {State: 3, Owner: -1, Wait: 2, On: 2}, {State: 3, Owner: -1, Wait: 3, On: 1},
		{State: 1, Owner: -1, Value: -1}, {State: 1, Owner: -1, Value: 10000},
		{State: 1, Owner: -1, Turn: -1}, {State: 1, Owner: -1, Turn: 1000001},
		{State: 1, Owner: -1, Turn: math.MinInt64}, {State: math.MinInt64, Owner: math.MaxInt64, Turn: math.MaxInt64},
	}
	p := middlePlan()
	for _, length := range []int64{1, 2, 3, 10} {
		for _, at := range spots(int(length)) {
			for _, task := range wrong {
				x := poolOf(p, plainTasks(length, 0))
				if !impl.PoolOk(p, x) {
					t.Fatalf("%d tasks are right", length)
				}
				x.Tasks[at] = task
				if impl.PoolOk(p, x) {
					t.Errorf("task %d of %d is not right: %+v", at, length, task)
				}
			}
		}
	}
}

func TestNoTwoTasksRunOfOneOwner(t *testing.T) {
	p := middlePlan()
	for one := 0; one < 10; one++ {
		for two := 0; two < 10; two++ {
			if one == two {
				continue
			}
			for w := int64(0); w < 3; w++ {
				x := poolOf(p, plainTasks(10, 0))
				x.Tasks[one].State, x.Tasks[one].Owner = 2, w
				if !impl.PoolOk(p, x) || impl.RunBy(x, w) != int64(one) {
					t.Errorf("worker %d runs task %d alone", w, one)
				}
				for v := int64(0); v < 3; v++ {
					x.Tasks[two].State, x.Tasks[two].Owner = 2, v
					if got := impl.PoolOk(p, x); got != (v != w) {
						t.Errorf("worker %d runs task %d, worker %d task %d: %v", w, one, v, two, got)
					}
				}
				// Beside a task of another state that has that Owner: it is not right, and it does not run.
				for _, state := range []int64{0, 1, 3, 4, 5, 6} {
					x.Tasks[two] = impl.Task{State: state, Owner: w}
					if state == 3 {
						x.Tasks[two].Wait, x.Tasks[two].On = 1, int64(one)
					}
					if impl.PoolOk(p, x) || impl.RunBy(x, w) != int64(one) {
						t.Errorf("worker %d runs task %d, and stands in %+v: %d", w, one, x.Tasks[two], impl.RunBy(x, w))
					}
				}
			}
		}
	}
}

func TestWorkersMayAllRunOneTaskEach(t *testing.T) {
	for workers := int64(1); workers <= 8; workers++ {
		p := impl.Plan{Workers: workers, Tasks: 9, Levels: 1}
		x := poolOf(p, plainTasks(9, 0))
		for w := range workers {
			x.Tasks[w+1] = impl.Task{State: 2, Owner: workers - 1 - w}
		}
		if !impl.PoolOk(p, x) || impl.CountOf(x, 2) != workers || impl.CountOf(x, 1) != 9-workers {
			t.Errorf("%d workers run one each", workers)
		}
		x.Tasks[0] = impl.Task{State: 2, Owner: 0}
		if impl.PoolOk(p, x) || impl.RunBy(x, 0) != 0 {
			t.Errorf("worker 0 of %d runs two", workers)
		}
	}
}

func TestNobodyWaitsForItselfOrForATaskThatThereIsNot(t *testing.T) {
	for _, tasks := range []int64{1, 2, 5, 10, 29, 30} {
		p := middlePlan()
		p.Tasks = tasks
		for length := int64(1); length <= tasks; length++ {
			for id := range length {
				for on := int64(-1); on <= 31; on++ {
					x := poolOf(p, plainTasks(length, 0))
					x.Tasks[id] = impl.Task{State: 3, Owner: -1, Wait: 1, On: on}
					if got := impl.PoolOk(p, x); got != (on >= 0 && on < length && on != id) {
						t.Errorf("task %d of %d (%d may be) waits for %d: %v", id, length, tasks, on, got)
					}
				}
			}
		}
	}
}

// A wait for a token or a future has nothing to do with how many tasks there are, or which one waits.
func TestTokensAndFuturesAreNoTasks(t *testing.T) {
	p := impl.Plan{Workers: 1, Tasks: 10, Levels: 1, Tokens: 4, Futures: 3}
	for length := int64(1); length <= 5; length++ {
		for id := range length {
			for wait, count := range map[int64]int64{2: 4, 3: 3} {
				for on := int64(-1); on <= 11; on++ {
					x := poolOf(p, plainTasks(length, 0))
					x.Tasks[id] = impl.Task{State: 3, Owner: -1, Wait: wait, On: on}
					if got := impl.PoolOk(p, x); got != (on >= 0 && on < count) {
						t.Errorf("task %d of %d waits for %d, %d: %v", id, length, wait, on, got)
					}
				}
			}
		}
	}
}

func TestTasksMayWaitForOneAnother(t *testing.T) {
	p := middlePlan()
	x := poolOf(p, []impl.Task{
		{State: 3, Owner: -1, Wait: 1, On: 1}, {State: 3, Owner: -1, Wait: 1, On: 0}, {State: 3, Owner: -1, Wait: 1, On: 0},
	})
	if !impl.PoolOk(p, x) || impl.CountOf(x, 3) != 3 || impl.CountOf(x, 1) != 0 {
		t.Errorf("%+v is right", x)
	}
	x.Tasks[2].On = 2
	if impl.PoolOk(p, x) {
		t.Errorf("%+v is not right", x)
	}
}

func TestTokensAreWithinTheirLimits(t *testing.T) {
	for kinds := int64(1); kinds <= 4; kinds++ {
		p := middlePlan()
		p.Tokens = kinds
		for at := range kinds {
			for _, n := range append(oddNumbers(), -2, -1, 0, 1, 50, 99, 100, 101, 102) {
				x := poolOf(p, plainTasks(2, 0))
				x.Tokens[at] = n
				if got := impl.PoolOk(p, x); got != (n >= 0 && n <= 100) {
					t.Errorf("kind %d of %d: %d free: %v", at, kinds, n, got)
				}
			}
		}
	}
}

func TestAFutureHasAValueOnlyWhereItIsSet(t *testing.T) {
	for count := int64(1); count <= 4; count++ {
		p := middlePlan()
		p.Futures = count
		for at := range count {
			for _, n := range append(oddNumbers(), -2, -1, 0, 1, 5000, 9998, 9999, 10000, 10001) {
				for _, set := range []bool{true, false} {
					x := poolOf(p, plainTasks(2, 0))
					x.Futures[at] = impl.Future{Set: set, Value: n}
					want := n == 0
					if set {
						want = n >= 0 && n <= 9999
					}
					if got := impl.PoolOk(p, x); got != want {
						t.Errorf("future %d of %d: %+v: %v", at, count, x.Futures[at], got)
					}
				}
			}
		}
	}
}

func TestThereAreAsManyKindsAsInThePlan(t *testing.T) {
	for want := int64(0); want <= 4; want++ {
		for got := int64(0); got <= 6; got++ {
			p := middlePlan()
			p.Tokens = want
			x := poolOf(p, plainTasks(2, 0))
			x.Tokens = make([]int64, got)
			if impl.PoolOk(p, x) != (got == want) {
				t.Errorf("%d kinds of tokens where %d are", got, want)
			}
			p = middlePlan()
			p.Futures = want
			x = poolOf(p, plainTasks(2, 0))
			x.Futures = make([]impl.Future, got)
			if impl.PoolOk(p, x) != (got == want) {
				t.Errorf("%d futures where %d are", got, want)
			}
		}
	}
}

func TestTurnIsWithinItsLimits(t *testing.T) {
	for _, p := range rightPlans() {
		for _, n := range append(farNumbers(), -1, 0, 1, 2, 500000, 999999, 1000000, 1000001, 1000002) {
			x := poolOf(p, nil)
			x.Turn = n
			if got := impl.PoolOk(p, x); got != (n >= 0 && n <= 1000000) {
				t.Errorf("%+v: Turn %d: %v", p, n, got)
			}
		}
	}
}

func TestTurnIsMoreThanThatOfEachTask(t *testing.T) {
	p := middlePlan()
	for _, turn := range append(farNumbers(), -1, 0, 1, 2, 7, 999999, 1000000, 1000001) {
		for _, at := range spots(10) {
			for state := int64(1); state <= 5; state++ {
				for _, n := range []int64{turn - 2, turn - 1, turn, turn + 1, 0, 1000000} {
					x := poolOf(p, plainTasks(10, 0))
					for i := range x.Tasks {
						x.Tasks[i].Turn = 0
					}
					x.Turn = turn
					x.Tasks[at] = impl.Task{State: state, Owner: -1, Turn: n}
					if state == 2 {
						x.Tasks[at].Owner = 1
					} else if state == 3 {
						x.Tasks[at].Wait = 2
					}
					want := turn >= 1 && turn <= 1000000 && n >= 0 && n < turn
					if got := impl.PoolOk(p, x); got != want {
						t.Errorf("Turn %d, of task %d %d: %v", turn, at, n, got)
					}
				}
			}
		}
	}
}

func TestTwoTasksMayHaveOneTurn(t *testing.T) {
	p := middlePlan()
	x := poolOf(p, []impl.Task{impl.NewTask(0, 5), impl.NewTask(0, 5), impl.NewTask(1, 5)})
	x.Turn = 6
	if !impl.PoolOk(p, x) {
		t.Errorf("%+v is right", x)
	}
}

// strangePools are not right in any plan; whoever asks who runs in them is answered by what stands in the tasks.
func strangePools() []impl.Pool {
	low, high := int64(math.MinInt64), int64(math.MaxInt64)
	many := poolOf(middlePlan(), plainTasks(300, -7))
	many.Tasks[299] = impl.Task{State: 2, Owner: 4}
	return []impl.Pool{
		{},
		{Turn: low, Stopped: true},
		{Turn: high, Tokens: []int64{low, high, -1, 101, 7, 7, 7}},
		{Futures: []impl.Future{{Value: low}, {Set: true, Value: high}, {Set: true, Value: -1}, {Value: 1}, {}, {}}},
		{Tasks: []impl.Task{{State: low, Owner: high}, {State: high, Owner: low}, {State: 2, Owner: low}, {State: 2, Owner: high}}},
		{Tasks: []impl.Task{{State: 2, Owner: -1}, {State: 2, Owner: 8}, {State: 2, Owner: 8}, {State: 2, Owner: -1}}},
		{Tasks: []impl.Task{{State: 1, Owner: 3}, {State: 3, Owner: 3}, {State: 2, Owner: 3}, {State: 2, Owner: 3}, {State: 4, Owner: 3}}},
		{Tasks: []impl.Task{{}, {}, {State: 6}, {State: -1, Owner: 2}, {State: 1<<32 + 2, Owner: 1}, {State: 2, Owner: 1<<32 + 1}}},
		many,
	}
}

func TestRunByAndCountOfAskTheTasksAlone(t *testing.T) {
	var pools []impl.Pool
	for _, p := range rightPlans() {
		pools = append(pools, rightPools(p)...)
	}
	numbers := append(farNumbers(), -1)
	for n := int64(0); n <= 31; n++ {
		numbers = append(numbers, n)
	}
	for _, x := range append(pools, strangePools()...) {
		for _, n := range numbers {
			run := int64(slices.IndexFunc(x.Tasks, func(k impl.Task) bool { return k.State == 2 && k.Owner == n }))
			if got := impl.RunBy(x, n); got != run {
				t.Errorf("%+v: worker %d runs %d, not %d", x, n, run, got)
			}
			count := int64(0)
			for i := range x.Tasks {
				if x.Tasks[i].State == n {
					count++
				}
			}
			if got := impl.CountOf(x, n); got != count {
				t.Errorf("%+v: state %d: %d, not %d", x, n, count, got)
			}
		}
	}
}

func TestRunByAndCountOfByHand(t *testing.T) {
	x := impl.Pool{Tasks: []impl.Task{
		{State: 1, Owner: -1}, {State: 2, Owner: 2}, {State: 4, Owner: -1}, {State: 2, Owner: 0},
		{State: 1, Owner: -1}, {State: 3, Owner: -1}, {State: 1, Owner: -1}, {State: 2, Owner: 2},
	}}
	for w, want := range map[int64]int64{-2: -1, -1: -1, 0: 3, 1: -1, 2: 1, 3: -1, math.MinInt64: -1, math.MaxInt64: -1} {
		if got := impl.RunBy(x, w); got != want {
			t.Errorf("worker %d: %d", w, got)
		}
	}
	for state, want := range map[int64]int64{-1: 0, 0: 0, 1: 3, 2: 3, 3: 1, 4: 1, 5: 0, 6: 0, math.MinInt64: 0, math.MaxInt64: 0} {
		if got := impl.CountOf(x, state); got != want {
			t.Errorf("state %d: %d", state, got)
		}
	}
}

func TestPoolsOfNilAndOfEmptyListsAreAlike(t *testing.T) {
	plans := append(rightPlans(), impl.Plan{}, middlePlan(), impl.Plan{Workers: 1, Tasks: 1, Levels: 1, Tokens: 1}, impl.Plan{Workers: 1, Tasks: 1, Levels: 1, Futures: 1})
	for _, p := range plans {
		for _, base := range append(rightPools(middlePlan()), impl.Pool{}, impl.NewPool(p), poolOf(rightPlans()[0], nil)) {
			for cut := range 8 {
				none, empty := clonePool(base), clonePool(base)
				if cut&1 != 0 {
					none.Tasks, empty.Tasks = nil, []impl.Task{}
				}
				if cut&2 != 0 {
					none.Tokens, empty.Tokens = nil, []int64{}
				}
				if cut&4 != 0 {
					none.Futures, empty.Futures = nil, []impl.Future{}
				}
				if impl.PoolOk(p, none) != impl.PoolOk(p, empty) {
					t.Errorf("%+v: %+v: with nil %v, with empty lists %v", p, none, impl.PoolOk(p, none), impl.PoolOk(p, empty))
				}
				for n := int64(-1); n <= 6; n++ {
					if impl.RunBy(none, n) != impl.RunBy(empty, n) || impl.CountOf(none, n) != impl.CountOf(empty, n) {
						t.Errorf("%+v: nil and empty lists are not alike: %d", none, n)
					}
				}
			}
		}
	}
	bare := impl.Plan{Workers: 1, Tasks: 1, Levels: 1}
	if !impl.PoolOk(bare, impl.Pool{}) || !impl.PoolOk(bare, impl.Pool{Tasks: []impl.Task{}, Tokens: []int64{}, Futures: []impl.Future{}}) {
		t.Error("a pool of nothing is right where there are no kinds")
	}
}

// poolAnswer is all that chapter 3 tells of one plan, one pool and one number.
type poolAnswer struct {
	right bool
	run   int64
	count int64
}

func poolAnswers(p impl.Plan, x impl.Pool, n int64) poolAnswer {
	return poolAnswer{impl.PoolOk(p, x), impl.RunBy(x, n), impl.CountOf(x, n)}
}

func TestPoolFunctionsAnswerAtEveryArgumentAndLeaveIt(t *testing.T) {
	defer func() {
		if r := recover(); r != nil {
			t.Fatal("a function of chapter 3 panics:", r)
		}
	}()
	ends := []int64{math.MinInt64, -1, 0, 1, 2, 5, 31, math.MaxInt64}
	type question struct {
		p impl.Plan
		w watched
		n int64
	}
	var asked []question
	var told []poolAnswer
	pools := strangePools()
	for _, p := range rightPlans() {
		pools = append(pools, rightPools(p)...)
	}
	for _, x := range pools {
		w := watch(x)
		for _, p := range append(rightPlans(), impl.Plan{}) {
			for _, f := range planFields() {
				for _, e := range ends {
					q := p
					f.put(&q, e)
					fresh := impl.NewPool(q)
					if samePool(fresh, impl.Pool{}) == impl.PlanOk(q) {
						t.Errorf("%+v: %+v", q, fresh)
					}
					asked = append(asked, question{q, w, e})
					told = append(told, poolAnswers(q, w.pool, e))
				}
			}
		}
		if !w.untouched() || !samePool(w.pool, x) {
			t.Errorf("the pool was changed, or what is behind its lists: %+v", w.whole)
		}
	}
	// Asked again from the last one back, the answers are the same: none depends on what was asked before.
	for i := len(asked) - 1; i >= 0; i-- {
		if again := poolAnswers(asked[i].p, asked[i].w.pool, asked[i].n); again != told[i] {
			t.Errorf("%+v: %v, then %v", asked[i], told[i], again)
		}
	}
}
