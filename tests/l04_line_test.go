package tests

import (
	"math"
	"slices"
	"testing"

	"loop.example/g00706/impl"
)

// ranked stands each wanted task where so many others come before it: no sorting, no heap, so that no fault of these is shared.
func ranked(tasks []impl.Task, wanted func(impl.Task) bool, before func(a impl.Task, b impl.Task) bool) []int64 {
	var ids []int64
	for i, k := range tasks {
		if wanted(k) {
			ids = append(ids, int64(i))
		}
	}
	line := make([]int64, len(ids))
	for i, one := range ids {
		place := 0
		for j, other := range ids {
			if before(tasks[other], tasks[one]) || j < i && !before(tasks[one], tasks[other]) {
				place++
			}
		}
		line[place] = one
	}
	return line
}

func readyLine(x impl.Pool) []int64 {
	return ranked(x.Tasks,
		func(k impl.Task) bool { return k.State == 1 },
		func(a impl.Task, b impl.Task) bool {
			return a.Level > b.Level || a.Level == b.Level && a.Turn < b.Turn
		})
}

func waitersOn(x impl.Pool, wait int64, on int64) []int64 {
	return ranked(x.Tasks,
		func(k impl.Task) bool { return k.State == 3 && k.Wait == wait && k.On == on },
		func(a impl.Task, b impl.Task) bool { return a.Turn < b.Turn })
}

// checkReady asks both functions of who is ready.
func checkReady(t *testing.T, x impl.Pool, want []int64) {
	t.Helper()
	if got := impl.ReadyLine(x); !slices.Equal(got, want) {
		t.Fatalf("%+v: the line is %v, not %v", x.Tasks, want, got)
	}
	first := int64(-1)
	if len(want) > 0 {
		first = want[0]
	}
	if got := impl.FirstReady(x); got != first {
		t.Fatalf("%+v: the first is %d, not %d", x.Tasks, first, got)
	}
}

func checkWaiters(t *testing.T, x impl.Pool, wait int64, on int64, want []int64) {
	t.Helper()
	if got := impl.WaitersOn(x, wait, on); !slices.Equal(got, want) {
		t.Fatalf("%+v: for %d, %d %v wait, not %v", x.Tasks, wait, on, want, got)
	}
}

func tasksPool(tasks []impl.Task) impl.Pool {
	return impl.Pool{Tasks: tasks}
}

// parked are the same tasks, in the same order, all waiting for one thing: WaitersOn sees of them what ReadyLine sees, but for levels.
func parked(tasks []impl.Task, wait int64, on int64) []impl.Task {
	list := slices.Clone(tasks)
	for i := range list {
		list[i].State, list[i].Wait, list[i].On = 3, wait, on
	}
	return list
}

// linePools are right and strange ones, and some in which levels, turns and numbers disagree.
func linePools() []impl.Pool {
	pools := strangePools()
	for _, p := range rightPlans() {
		pools = append(pools, rightPools(p)...)
	}
	low, high := int64(math.MinInt64), int64(math.MaxInt64)
	ends := []int64{0, high, low, -1, 1, high - 1, low + 1, 1 << 32, 1<<53 + 1, 1 << 53}
	var mixed []impl.Task
	for i := range 100 {
		mixed = append(mixed, impl.Task{
			State: []int64{1, 3, 1, 3, 2, 1, 3, 0, 4, 5, low, high}[i*5%12],
			Level: ends[i*7%10], Owner: ends[i%10], Wait: []int64{2, 1, 3, 2, low, 0}[i%6],
			On: []int64{0, 0, 1, -1, high}[i%5], Value: ends[i*3%10], Turn: ends[i*3%10],
		})
	}
	return append(pools, tasksPool(mixed), tasksPool(mixed[:30]), tasksPool(parked(mixed, 1, 3)))
}

func TestLinesByHand(t *testing.T) {
	x := tasksPool([]impl.Task{
		{State: 1, Level: 1, Owner: -1, Turn: 4},
		{State: 2, Level: 3, Owner: 0, Turn: 1},
		{State: 1, Level: 0, Owner: -1, Turn: 2},
		{State: 1, Level: 2, Owner: -1, Turn: 9},
		{State: 3, Level: 3, Owner: -1, Wait: 2, On: 1, Turn: 8},
		{State: 1, Level: 2, Owner: -1, Turn: 9},
		{State: 3, Level: 0, Owner: -1, Wait: 2, On: 1, Turn: 3},
		{State: 1, Level: 2, Owner: -1, Turn: 5},
		{State: 4, Level: 3, Owner: -1, Turn: 0},
		{State: 3, Level: 1, Owner: -1, Wait: 2, On: 1, Turn: 3},
		{State: 5, Level: 3, Owner: -1, Turn: 0},
		{State: 3, Level: 1, Owner: -1, Wait: 1, On: 1, Turn: 6},
		{State: 1, Level: 1, Owner: -1, Turn: 3},
		{State: 3, Level: 1, Owner: -1, Wait: 3, On: 0, Turn: 7},
	})
	checkReady(t, x, []int64{7, 3, 5, 12, 0, 2})
	checkWaiters(t, x, 2, 1, []int64{6, 9, 4})
	checkWaiters(t, x, 1, 1, []int64{11})
	checkWaiters(t, x, 3, 0, []int64{13})
	checkWaiters(t, x, 3, 1, nil)
	checkWaiters(t, x, 0, 0, nil)
}

// Each task is one of eight: no State, Level, Turn, Wait or On goes untried beside another one.
func TestLinesOfAllSmallPools(t *testing.T) {
	kinds := []impl.Task{
		{State: 1, Level: 0, Turn: 0}, {State: 1, Level: 0, Turn: 1}, {State: 1, Level: 1, Turn: 0}, {State: 1, Level: 1, Turn: 1},
		{State: 3, Level: 1, Wait: 2, Turn: 1}, {State: 3, Level: 0, Wait: 2, Turn: 0}, {State: 3, Level: 1, Wait: 1, On: 1, Turn: 0},
		{State: 2, Level: 1, Owner: 1},
	}
	var try func(tasks []impl.Task)
	try = func(tasks []impl.Task) {
		x := tasksPool(tasks)
		checkReady(t, x, readyLine(x))
		for wait := int64(0); wait <= 3; wait++ {
			for on := range int64(2) {
				checkWaiters(t, x, wait, on, waitersOn(x, wait, on))
			}
		}
		if len(tasks) < 4 {
			for _, k := range kinds {
				try(append(slices.Clone(tasks), k))
			}
		}
	}
	try(nil)
}

// Seven that stand by level, then by turn: however they are mixed, each one is found at its place.
func TestLinesOfAllOrders(t *testing.T) {
	stand := []impl.Task{
		{State: 1, Level: 3, Turn: 9}, {State: 1, Level: 2, Turn: 1}, {State: 1, Level: 2, Turn: 8}, {State: 1, Level: 1, Turn: 0},
		{State: 1, Level: 1, Turn: 7}, {State: 1, Level: 0, Turn: 5}, {State: 1, Level: 0, Turn: 6},
	}
	byTurn := []int64{3, 1, 5, 6, 4, 2, 0}
	var try func(order []int64)
	try = func(order []int64) {
		if len(order) < len(stand) {
			for one := range int64(len(stand)) {
				if !slices.Contains(order, one) {
					try(append(slices.Clone(order), one))
				}
			}
			return
		}
		tasks, ready, waiting := make([]impl.Task, len(stand)), make([]int64, len(stand)), make([]int64, len(stand))
		for id, one := range order {
			tasks[id] = stand[one]
			ready[one] = int64(id)
			waiting[slices.Index(byTurn, one)] = int64(id)
		}
		checkReady(t, tasksPool(tasks), ready)
		checkWaiters(t, tasksPool(parked(tasks, 1, 9)), 1, 9, waiting)
	}
	try(nil)
}

// oneAtEnd is 1 for the last of count, else 0.
func oneAtEnd(i int64, count int64) int64 {
	if i == count-1 {
		return 1
	}
	return 0
}

// Lines of every length up to more than a plan may have, from those who stand in order already to those who stand the other way round.
func TestLinesOfEveryLength(t *testing.T) {
	orders := map[string]func(i int64, count int64) (level int64, turn int64){
		"in line":                 func(i int64, count int64) (int64, int64) { return (count - i) / 4, i },
		"the other way":           func(i int64, count int64) (int64, int64) { return i / 4, count - i },
		"mixed":                   func(i int64, count int64) (int64, int64) { return i * 5 % 4, i * 17 % 23 },
		"levels against turns":    func(i int64, count int64) (int64, int64) { return i, i },
		"turns against numbers":   func(i int64, count int64) (int64, int64) { return 2, count - i },
		"levels against numbers":  func(i int64, count int64) (int64, int64) { return i, 3 },
		"all of one level":        func(i int64, count int64) (int64, int64) { return 1, i * 7 % 11 },
		"all of one turn":         func(i int64, count int64) (int64, int64) { return i * 7 % 3, 8 },
		"all the same":            func(i int64, count int64) (int64, int64) { return 1, 8 },
		"two that change places":  func(i int64, count int64) (int64, int64) { return i % 2, i % 2 },
		"one greater at the end":  func(i int64, count int64) (int64, int64) { return oneAtEnd(i, count), 1 },
		"one lesser at the end":   func(i int64, count int64) (int64, int64) { return 1, 1 - oneAtEnd(i, count) },
		"levels below 0, and far": func(i int64, count int64) (int64, int64) { return i*i%7 - 3, i*i%5 - 2 },
	}
	for name, order := range orders {
		for _, count := range []int64{0, 1, 2, 3, 4, 5, 7, 8, 15, 16, 29, 30, 31, 33, 64, 100, 257} {
			var tasks []impl.Task
			for i := range count {
				level, turn := order(i, count)
				tasks = append(tasks, impl.Task{State: 1, Level: level, Owner: -1, Turn: turn})
			}
			x := tasksPool(tasks)
			checkReady(t, x, readyLine(x))
			y := tasksPool(parked(tasks, 2, 1))
			checkReady(t, y, nil)
			checkWaiters(t, y, 2, 1, waitersOn(y, 2, 1))
			if len(impl.ReadyLine(x)) != int(count) || len(impl.WaitersOn(y, 2, 1)) != int(count) {
				t.Errorf("%s: of %d all stand in the line", name, count)
			}
		}
	}
}

func TestAlikeTasksStandByNumber(t *testing.T) {
	for count := range int64(40) {
		var tasks []impl.Task
		var numbers []int64
		for i := range count {
			tasks = append(tasks, impl.NewTask(2, 5))
			numbers = append(numbers, i)
		}
		checkReady(t, tasksPool(tasks), numbers)
		checkWaiters(t, tasksPool(parked(tasks, 3, 0)), 3, 0, numbers)
	}
}

// Owner and Value, and of who is ready Wait and On, change no place in a line.
func TestNothingElseMovesATaskInALine(t *testing.T) {
	far := append(farNumbers(), -1, 0, 1, 3)
	for _, n := range far {
		for _, m := range far {
			ready := []impl.Task{
				{State: 1, Level: 1, Turn: 5, Owner: n, Value: m, Wait: n, On: m},
				{State: 1, Level: 1, Turn: 5, Owner: m, Value: n, Wait: m, On: n},
				{State: 1, Level: 1, Turn: 4, Owner: m, Value: m, Wait: n, On: n},
			}
			checkReady(t, tasksPool(ready), []int64{2, 0, 1})
			waiting := parked(ready, 2, 0)
			waiting[0].Level, waiting[1].Level, waiting[2].Level = n, m, 0
			checkWaiters(t, tasksPool(waiting), 2, 0, []int64{2, 0, 1})
			x := impl.Pool{Tasks: ready, Tokens: []int64{n, m}, Futures: []impl.Future{{Set: true, Value: n}}, Turn: m, Stopped: n < m}
			checkReady(t, x, []int64{2, 0, 1})
		}
	}
}

// A difference of two numbers at the ends of int64 wraps, and a float keeps no more than 53 bits of one.
func TestLinesOfNumbersAtTheEnds(t *testing.T) {
	rising := []int64{
		math.MinInt64, math.MinInt64 + 1, -1<<53 - 1, -1 << 53, -1 << 32, math.MinInt32, -2, -1,
		0, 1, 2, 3, 4, 1000000, 1000001, 1 << 31, 1 << 32, 1<<32 + 1, 1 << 53, 1<<53 + 1, math.MaxInt64 - 1, math.MaxInt64,
	}
	for i, less := range rising {
		for _, more := range rising[i+1:] {
			byTurn := []impl.Task{{State: 1, Turn: more}, {State: 1, Turn: less}}
			checkReady(t, tasksPool(byTurn), []int64{1, 0})
			checkWaiters(t, tasksPool(parked(byTurn, 1, 5)), 1, 5, []int64{1, 0})
			slices.Reverse(byTurn)
			checkReady(t, tasksPool(byTurn), []int64{0, 1})
			checkWaiters(t, tasksPool(parked(byTurn, 1, 5)), 1, 5, []int64{0, 1})
			// The greater Level is first though its Turn is the greater one, too.
			byLevel := []impl.Task{{State: 1, Level: less, Turn: less}, {State: 1, Level: more, Turn: more}}
			checkReady(t, tasksPool(byLevel), []int64{1, 0})
			slices.Reverse(byLevel)
			checkReady(t, tasksPool(byLevel), []int64{0, 1})
		}
	}
}

func TestOnlyTheReadyStandInTheReadyLine(t *testing.T) {
	others := append(farNumbers(), -1, 0, 2, 3, 4, 5, 6, 7, 1<<8+1, 1<<16+1, 1<<33+1)
	for _, state := range others {
		var tasks []impl.Task
		for i := range int64(9) {
			tasks = append(tasks, impl.Task{State: state, Level: 3 - i%4, Owner: -1, Turn: i})
		}
		checkReady(t, tasksPool(tasks), nil)
		for at := range tasks {
			one := slices.Clone(tasks)
			one[at] = impl.Task{State: 1, Level: -1, Owner: -1, Turn: 99}
			checkReady(t, tasksPool(one), []int64{int64(at)})
			all := plainTasks(9, 0)
			slices.Reverse(all)
			all[at].State, all[at].Level = state, 3
			var want []int64
			for id := int64(8); id >= 0; id-- {
				if id != int64(at) {
					want = append(want, id)
				}
			}
			checkReady(t, tasksPool(all), want)
		}
	}
}

func TestOnlyTheParkedWait(t *testing.T) {
	states := append(farNumbers(), -1, 0, 1, 2, 4, 5, 6, 7, 1<<8+3, 1<<16+3, 1<<33+3)
	for _, state := range states {
		for _, wait := range []int64{0, 1, 2, 3} {
			for at := range 5 {
				tasks := parked(plainTasks(5, 0), wait, 2)
				slices.Reverse(tasks)
				tasks[at].State = state
				var want []int64
				for id := int64(4); id >= 0; id-- {
					if id != int64(at) {
						want = append(want, id)
					}
				}
				checkWaiters(t, tasksPool(tasks), wait, 2, want)
			}
		}
	}
}

// In a pool that is not right somebody may be parked for what is no Wait, or on what there is not: the line is of what stands in the tasks.
func TestWaitersHaveBothThatWaitAndThatOn(t *testing.T) {
	numbers := append(farNumbers(), -1, 0, 1, 2, 3, 4, 29, 30)
	for _, wait := range numbers {
		for _, on := range numbers {
			x := tasksPool([]impl.Task{
				{State: 3, Wait: wait, On: on, Turn: 6}, {State: 3, Wait: wait, On: on, Turn: 2},
				{State: 1, Wait: wait, On: on, Turn: 1}, {State: 3, Wait: wait, On: on, Turn: 6},
			})
			for _, w := range numbers {
				for _, o := range numbers {
					if w == wait && o == on {
						checkWaiters(t, x, w, o, []int64{1, 0, 3})
					} else if got := impl.WaitersOn(x, w, o); len(got) != 0 {
						t.Errorf("they wait for %d, %d; for %d, %d nobody does: %v", wait, on, w, o, got)
					}
				}
			}
		}
	}
}

func TestNobodyWaitsForWhatNobodyHas(t *testing.T) {
	p := middlePlan()
	for _, x := range []impl.Pool{{}, impl.NewPool(p), poolOf(p, plainTasks(10, 0)), poolOf(p, plainTasks(300, 0))} {
		for _, wait := range append(farNumbers(), -1, 0, 1, 2, 3, 4) {
			for _, on := range append(farNumbers(), -1, 1, 2, 9, 10) {
				checkWaiters(t, x, wait, on, nil)
			}
		}
	}
}

func TestLinesOfAnyPool(t *testing.T) {
	waits := []int64{math.MinInt64, -1, 0, 1, 2, 3, 4, math.MaxInt64}
	ons := []int64{math.MinInt64, -1, 0, 1, 2, 3, 9, 29, 30, math.MaxInt64}
	for _, x := range linePools() {
		checkReady(t, x, readyLine(x))
		for _, wait := range waits {
			for _, on := range ons {
				checkWaiters(t, x, wait, on, waitersOn(x, wait, on))
			}
		}
	}
}

func TestEachReadyTaskStandsInTheLineOnce(t *testing.T) {
	for _, x := range linePools() {
		line := impl.ReadyLine(x)
		if int64(len(line)) != impl.CountOf(x, 1) {
			t.Errorf("%+v: %v", x.Tasks, line)
		}
		if first := impl.FirstReady(x); len(line) > 0 && first != line[0] || len(line) == 0 && first != -1 {
			t.Errorf("%+v: %d is not the first of %v", x.Tasks, first, line)
		}
		rising := slices.Clone(line)
		slices.Sort(rising)
		if len(slices.Compact(rising)) != len(line) {
			t.Errorf("%+v: somebody stands twice in %v", x.Tasks, line)
		}
		for _, id := range line {
			if id < 0 || id >= int64(len(x.Tasks)) || x.Tasks[id].State != 1 {
				t.Errorf("%+v: %d of %v is not ready", x.Tasks, id, line)
			}
		}
	}
}

func TestLinesOfNilAndOfEmptyListsAreAlike(t *testing.T) {
	empty := impl.Pool{Tasks: []impl.Task{}, Tokens: []int64{}, Futures: []impl.Future{}}
	for _, x := range []impl.Pool{{}, empty, {Turn: 7, Stopped: true}, {Tasks: plainTasks(3, 0)[:0]}} {
		checkReady(t, x, nil)
		for wait := int64(-1); wait <= 4; wait++ {
			checkWaiters(t, x, wait, 0, nil)
		}
	}
	for _, x := range linePools() {
		bare, filled := clonePool(x), clonePool(x)
		bare.Tokens, bare.Futures = nil, nil
		filled.Tokens, filled.Futures = []int64{}, []impl.Future{}
		checkReady(t, bare, readyLine(x))
		checkReady(t, filled, readyLine(x))
		checkWaiters(t, bare, 2, 0, waitersOn(x, 2, 0))
		checkWaiters(t, filled, 2, 0, waitersOn(x, 2, 0))
	}
}

func TestLinesLeaveThePoolAndAnswerAgain(t *testing.T) {
	defer func() {
		if r := recover(); r != nil {
			t.Fatal("a function of chapter 4 panics:", r)
		}
	}()
	pools := linePools()
	slices.Reverse(pools)
	// Asked three times over, and of other pools in between: no answer depends on what was asked before.
	for range 3 {
		for _, x := range pools {
			w := watch(x)
			checkReady(t, w.pool, readyLine(x))
			for _, wait := range []int64{math.MinInt64, 0, 1, 2, 3, math.MaxInt64} {
				for _, on := range []int64{math.MinInt64, -1, 0, 1, math.MaxInt64} {
					checkWaiters(t, w.pool, wait, on, waitersOn(x, wait, on))
				}
			}
			if !w.untouched() || !samePool(w.pool, x) {
				t.Errorf("the pool was changed, or what is behind its lists: %+v", w.whole)
			}
		}
	}
}

// spoil writes into all the memory of an answer, also behind its end.
func spoil(list []int64) {
	whole := list[:cap(list)]
	for i := range whole {
		whole[i] = -777
	}
}

func TestLinesShareNoMemory(t *testing.T) {
	for _, x := range linePools() {
		w := watch(x)
		ask := func() [][]int64 {
			return [][]int64{impl.ReadyLine(w.pool), impl.WaitersOn(w.pool, 2, 0), impl.ReadyLine(w.pool), impl.WaitersOn(w.pool, 2, 0), impl.WaitersOn(w.pool, 1, 0)}
		}
		for spoilt := range ask() {
			lines := ask()
			kept := ask()
			spoil(lines[spoilt])
			for i := range lines {
				if i != spoilt && !slices.Equal(lines[i], kept[i]) {
					t.Errorf("a write into answer %d is seen in answer %d: %v", spoilt, i, lines[i])
				}
			}
			for i, again := range ask() {
				if !slices.Equal(again, kept[i]) {
					t.Errorf("a write into an answer is seen in a later one: %v", again)
				}
			}
		}
		// And the other way: what is written into the pool later is not seen in an answer.
		lines, kept := ask(), ask()
		clear(w.pool.Tasks)
		clear(w.pool.Tokens)
		for i := range lines {
			if !slices.Equal(lines[i], kept[i]) {
				t.Errorf("a write into the pool is seen in an answer: %v", lines[i])
			}
		}
	}
}

// Some thousands stand in no pool that is right, but the answer comes all the same.
func TestLinesOfManyTasks(t *testing.T) {
	const count = 5000
	tasks := make([]impl.Task, count)
	want := make([]int64, count)
	for i := range int64(count) {
		place := i * 1237 % count
		tasks[i] = impl.Task{State: 1, Level: 7 - place/1000, Turn: place - count}
		want[place] = i
	}
	checkReady(t, tasksPool(tasks), want)
	checkWaiters(t, tasksPool(parked(tasks, 3, 3)), 3, 3, want)
}
