package tests

import (
	"math"
	"slices"
	"testing"

	"loop.example/g00706/impl"
)

// asker is a call of chapter 5 with all but its pool told; what a flag says is 1 or 0.
type asker func(x impl.Pool) (impl.Pool, int64)

func flag(is bool) int64 {
	if is {
		return 1
	}
	return 0
}

func askWoken(p impl.Plan, id int64, value int64) asker {
	return func(x impl.Pool) (impl.Pool, int64) {
		y, is := impl.Woken(p, x, id, value)
		return y, flag(is)
	}
}

func askWokenAll(p impl.Plan, wait int64, on int64, value int64) asker {
	return func(x impl.Pool) (impl.Pool, int64) {
		return impl.WokenAll(p, x, wait, on, value)
	}
}

func askParked(p impl.Plan, id int64, wait int64, on int64) asker {
	return func(x impl.Pool) (impl.Pool, int64) {
		y, is := impl.ParkedBy(p, x, id, wait, on)
		return y, flag(is)
	}
}

// spoilPool writes into all the memory of an answer, also behind the ends of its lists.
func spoilPool(x impl.Pool) {
	tasks, futures := x.Tasks[:cap(x.Tasks)], x.Futures[:cap(x.Futures)]
	for i := range tasks {
		tasks[i] = impl.Task{State: -777, Level: -777, Owner: -777, Wait: -777, On: -777, Value: -777, Turn: -777}
	}
	for i := range futures {
		futures[i] = impl.Future{Set: true, Value: -777}
	}
	spoil(x.Tokens)
}

// checkChange asks twice, and asks of each answer, refused or not, that it is memory of its own.
func checkChange(t *testing.T, x impl.Pool, ask asker, want impl.Pool, told int64) {
	t.Helper()
	w := watch(x)
	first, one := ask(w.pool)
	second, two := ask(w.pool)
	if one != told || two != told {
		t.Fatalf("%+v: told is %d, not %d or %d", x, told, one, two)
	}
	if !samePool(first, want) || !samePool(second, want) {
		t.Fatalf("%+v: then %+v, not %+v or %+v", x, want, first, second)
	}
	if !w.untouched() {
		t.Fatalf("the pool was changed, or what is behind its lists: %+v", w.whole)
	}
	spoilPool(first)
	if !w.untouched() {
		t.Fatalf("%+v: a write into the answer is seen in the pool", x)
	}
	if !samePool(second, want) {
		t.Fatalf("%+v: a write into one answer is seen in the other: %+v", x, second)
	}
	spoilPool(w.whole)
	if !samePool(second, want) {
		t.Fatalf("%+v: a write into the pool is seen in the answer: %+v", x, second)
	}
}

func isTask(x impl.Pool, id int64, state int64) bool {
	return id >= 0 && id < int64(len(x.Tasks)) && x.Tasks[id].State == state
}

// wokenTask names all fields of one that is woken; its Level alone is as it was.
func wokenTask(k impl.Task, value int64, turn int64) impl.Task {
	return impl.Task{State: 1, Level: k.Level, Owner: -1, Wait: 0, On: 0, Value: value, Turn: turn}
}

// parkedTask names all fields of one that is parked; its Level and its Value are as they were.
func parkedTask(k impl.Task, wait int64, on int64, turn int64) impl.Task {
	return impl.Task{State: 3, Level: k.Level, Owner: -1, Wait: wait, On: on, Value: k.Value, Turn: turn}
}

// checkWoken, checkWokenAll and checkParked are told what is right by the words of the chapter, for a plan and a pool that are right.
func checkWoken(t *testing.T, p impl.Plan, x impl.Pool, id int64, value int64) {
	t.Helper()
	want := clonePool(x)
	is := isTask(x, id, 3) && value >= 0 && value <= 9999 && x.Turn < 1000000
	if is {
		want.Tasks[id] = wokenTask(x.Tasks[id], value, x.Turn)
		want.Turn++
	}
	checkChange(t, x, askWoken(p, id, value), want, flag(is))
}

func checkWokenAll(t *testing.T, p impl.Plan, x impl.Pool, wait int64, on int64, value int64) {
	t.Helper()
	want := clonePool(x)
	line := waitersOn(x, wait, on)
	count := int64(len(line))
	if count > 0 && (value < 0 || value > 9999 || x.Turn > 1000000-count) {
		checkChange(t, x, askWokenAll(p, wait, on, value), want, -1)
		return
	}
	for i, id := range line {
		want.Tasks[id] = wokenTask(x.Tasks[id], value, x.Turn+int64(i))
	}
	want.Turn += count
	checkChange(t, x, askWokenAll(p, wait, on, value), want, count)
}

func checkParked(t *testing.T, p impl.Plan, x impl.Pool, id int64, wait int64, on int64) {
	t.Helper()
	want := clonePool(x)
	counts := map[int64]int64{1: int64(len(x.Tasks)), 2: p.Tokens, 3: p.Futures}
	is := isTask(x, id, 2) && x.Turn < 1000000 &&
		on >= 0 && on < counts[wait] && (wait != 1 || on != id)
	if is {
		want.Tasks[id] = parkedTask(x.Tasks[id], wait, on, x.Turn)
		want.Turn++
	}
	checkChange(t, x, askParked(p, id, wait, on), want, flag(is))
}

// wakePlan has room for two tasks more than wakePool has.
func wakePlan() impl.Plan {
	return impl.Plan{Workers: 3, Tasks: 14, Levels: 4, Tokens: 3, Futures: 2}
}

// wakePool has tasks of each state; three wait for the tokens of kind 1, not by number, and others for other things with that On.
func wakePool() impl.Pool {
	return impl.Pool{
		Tasks: []impl.Task{
			{State: 2, Level: 1, Owner: 2, Value: 11, Turn: 0},
			{State: 1, Level: 3, Owner: -1, Value: 22, Turn: 5},
			{State: 3, Level: 2, Owner: -1, Wait: 2, On: 1, Value: 33, Turn: 9},
			{State: 4, Level: 0, Owner: -1, Value: 44, Turn: 19},
			{State: 3, Level: 0, Owner: -1, Wait: 2, On: 1, Value: 55, Turn: 4},
			{State: 5, Level: 1, Owner: -1, Value: 66, Turn: 2},
			{State: 3, Level: 3, Owner: -1, Wait: 2, On: 1, Value: 0, Turn: 4},
			{State: 3, Level: 1, Owner: -1, Wait: 1, On: 1, Value: 77, Turn: 1},
			{State: 3, Level: 2, Owner: -1, Wait: 3, On: 1, Value: 88, Turn: 18},
			{State: 3, Level: 3, Owner: -1, Wait: 2, On: 0, Value: 99, Turn: 3},
			{State: 2, Level: 0, Owner: 0, Value: 9999, Turn: 17},
			{State: 3, Level: 1, Owner: -1, Wait: 1, On: 0, Value: 12, Turn: 6},
		},
		Tokens:  []int64{3, 0, 100},
		Futures: []impl.Future{{Set: true, Value: 7}, {}},
		Turn:    20,
	}
}

func TestWokenByHand(t *testing.T) {
	p, x := wakePlan(), wakePool()
	want := wakePool()
	want.Tasks[2] = impl.Task{State: 1, Level: 2, Owner: -1, Value: 8, Turn: 20}
	want.Turn = 21
	checkChange(t, x, askWoken(p, 2, 8), want, 1)
	want = wakePool()
	want.Tasks[11] = impl.Task{State: 1, Level: 1, Owner: -1, Value: 0, Turn: 20}
	want.Turn = 21
	checkChange(t, x, askWoken(p, 11, 0), want, 1)
	want = wakePool()
	want.Tasks[8] = impl.Task{State: 1, Level: 2, Owner: -1, Value: 9999, Turn: 20}
	want.Turn = 21
	checkChange(t, x, askWoken(p, 8, 9999), want, 1)
	for _, two := range [][2]int64{{2, -1}, {2, 10000}, {-1, 8}, {12, 8}, {13, 8}, {14, 8}, {0, 8}, {1, 8}, {3, 8}, {5, 8}} {
		checkChange(t, x, askWoken(p, two[0], two[1]), wakePool(), 0)
	}
}

func TestWokenAllByHand(t *testing.T) {
	p, x := wakePlan(), wakePool()
	want := wakePool()
	want.Tasks[4] = impl.Task{State: 1, Level: 0, Owner: -1, Value: 8, Turn: 20}
	want.Tasks[6] = impl.Task{State: 1, Level: 3, Owner: -1, Value: 8, Turn: 21}
	want.Tasks[2] = impl.Task{State: 1, Level: 2, Owner: -1, Value: 8, Turn: 22}
	want.Turn = 23
	checkChange(t, x, askWokenAll(p, 2, 1, 8), want, 3)
	want = wakePool()
	want.Tasks[7] = impl.Task{State: 1, Level: 1, Owner: -1, Value: 9999, Turn: 20}
	want.Turn = 21
	checkChange(t, x, askWokenAll(p, 1, 1, 9999), want, 1)
	want = wakePool()
	want.Tasks[8] = impl.Task{State: 1, Level: 2, Owner: -1, Value: 0, Turn: 20}
	want.Turn = 21
	checkChange(t, x, askWokenAll(p, 3, 1, 0), want, 1)
	for _, three := range [][3]int64{{2, 1, -1}, {2, 1, 10000}, {1, 0, -1}, {3, 1, 10000}} {
		checkChange(t, x, askWokenAll(p, three[0], three[1], three[2]), wakePool(), -1)
	}
	for _, three := range [][3]int64{{2, 2, 8}, {2, 3, 8}, {3, 0, 8}, {1, 2, 8}, {1, 12, 8}, {0, 0, 8}, {4, 1, 8}, {-1, 1, 8}, {2, 2, -1}, {3, 0, 10000}} {
		checkChange(t, x, askWokenAll(p, three[0], three[1], three[2]), wakePool(), 0)
	}
}

func TestParkedByHand(t *testing.T) {
	p, x := wakePlan(), wakePool()
	for _, two := range [][2]int64{{1, 10}, {1, 1}, {1, 3}, {1, 5}, {1, 11}, {2, 0}, {2, 1}, {2, 2}, {3, 0}, {3, 1}} {
		want := wakePool()
		want.Tasks[0] = impl.Task{State: 3, Level: 1, Owner: -1, Wait: two[0], On: two[1], Value: 11, Turn: 20}
		want.Turn = 21
		checkChange(t, x, askParked(p, 0, two[0], two[1]), want, 1)
	}
	want := wakePool()
	want.Tasks[10] = impl.Task{State: 3, Level: 0, Owner: -1, Wait: 1, On: 0, Value: 9999, Turn: 20}
	want.Turn = 21
	checkChange(t, x, askParked(p, 10, 1, 0), want, 1)
	for _, three := range [][3]int64{
		{0, 1, 0}, {10, 1, 10}, {0, 1, 12}, {0, 1, 13}, {0, 1, 14}, {0, 1, -1}, {0, 2, 3}, {0, 2, -1}, {0, 3, 2}, {0, 3, -1},
		{0, 0, 0}, {0, 0, 1}, {0, 4, 0}, {0, -1, 0}, {1, 2, 0}, {2, 2, 0}, {3, 2, 0}, {5, 2, 0}, {-1, 2, 0}, {12, 2, 0}, {14, 2, 0},
	} {
		checkChange(t, x, askParked(p, three[0], three[1], three[2]), wakePool(), 0)
	}
}

// checkNoPool asks for the zero Pool: of calls that would be done in wakePool, of ones that would be refused, and where nobody would be woken.
func checkNoPool(t *testing.T, p impl.Plan, x impl.Pool) {
	t.Helper()
	low, high := int64(math.MinInt64), int64(math.MaxInt64)
	for _, ask := range []asker{
		askWoken(p, 2, 8), askWoken(p, 0, 8), askWoken(p, 2, 10000), askWoken(p, low, high),
		askParked(p, 0, 2, 1), askParked(p, 1, 2, 1), askParked(p, 0, 0, 0), askParked(p, high, low, low),
	} {
		checkChange(t, x, ask, impl.Pool{}, 0)
	}
	for _, ask := range []asker{
		askWokenAll(p, 2, 1, 8), askWokenAll(p, 2, 1, -1), askWokenAll(p, 2, 2, 8), askWokenAll(p, high, low, high),
	} {
		checkChange(t, x, ask, impl.Pool{}, -1)
	}
}

func TestNobodyIsWokenOrParkedInAPlanThatIsNotRight(t *testing.T) {
	pools := []impl.Pool{wakePool(), {}, impl.NewPool(wakePlan())}
	for _, base := range append(rightPlans(), wakePlan()) {
		for _, f := range planFields() {
			for _, n := range append(oddNumbers(), f.least-1, f.most+1) {
				p := base
				f.put(&p, n)
				for _, x := range pools {
					checkNoPool(t, p, x)
				}
			}
		}
	}
	for _, x := range pools {
		checkNoPool(t, impl.Plan{}, x)
	}
}

// wrongPools are wakePool but for one thing, at a task or a kind that the calls do not name.
func wrongPools() map[string]impl.Pool {
	list := map[string]impl.Pool{}
	put := func(name string, change func(x *impl.Pool)) {
		x := wakePool()
		change(&x)
		list[name] = x
	}
	put("no such state", func(x *impl.Pool) { x.Tasks[3].State = 6 })
	put("a zero task", func(x *impl.Pool) { x.Tasks[11] = impl.Task{} })
	put("no such level", func(x *impl.Pool) { x.Tasks[1].Level = 4 })
	put("an owner of who is ready", func(x *impl.Pool) { x.Tasks[1].Owner = 0 })
	put("no such owner", func(x *impl.Pool) { x.Tasks[10].Owner = 3 })
	put("two of one owner", func(x *impl.Pool) { x.Tasks[10].Owner = 2 })
	put("a wait of who is done", func(x *impl.Pool) { x.Tasks[3].Wait = 2 })
	put("who waits for nothing", func(x *impl.Pool) { x.Tasks[9].Wait = 0 })
	put("who waits for itself", func(x *impl.Pool) { x.Tasks[11].On = 11 })
	put("who waits for a task that there is not", func(x *impl.Pool) { x.Tasks[11].On = 12 })
	put("who waits for a kind that there is not", func(x *impl.Pool) { x.Tasks[9].On = 3 })
	put("a value below 0", func(x *impl.Pool) { x.Tasks[5].Value = -1 })
	put("a value too great", func(x *impl.Pool) { x.Tasks[5].Value = 10000 })
	put("a turn that has not come", func(x *impl.Pool) { x.Tasks[3].Turn = 20 })
	put("a turn below 0", func(x *impl.Pool) { x.Tasks[3].Turn = -1 })
	put("too many tasks", func(x *impl.Pool) { x.Tasks = append(x.Tasks, plainTasks(3, 0)...) })
	put("a kind too few", func(x *impl.Pool) { x.Tokens = x.Tokens[:2] })
	put("a kind too many", func(x *impl.Pool) { x.Tokens = append(x.Tokens, 0) })
	put("tokens below 0", func(x *impl.Pool) { x.Tokens[2] = -1 })
	put("too many tokens", func(x *impl.Pool) { x.Tokens[2] = 101 })
	put("a future too few", func(x *impl.Pool) { x.Futures = x.Futures[:1] })
	put("a future too many", func(x *impl.Pool) { x.Futures = append(x.Futures, impl.Future{}) })
	put("a value that is not set", func(x *impl.Pool) { x.Futures[1].Value = 1 })
	put("a value set too great", func(x *impl.Pool) { x.Futures[0].Value = 10000 })
	put("turn below 0", func(x *impl.Pool) { x.Turn = -1 })
	put("turn not past those of the tasks", func(x *impl.Pool) { x.Turn = 19 })
	put("turn too great", func(x *impl.Pool) { x.Turn = 1000001 })
	put("turn at the least", func(x *impl.Pool) { x.Turn = math.MinInt64 })
	put("turn at the most", func(x *impl.Pool) { x.Turn = math.MaxInt64 })
	put("no kinds", func(x *impl.Pool) { x.Tokens, x.Futures = nil, nil })
	return list
}

func TestNobodyIsWokenOrParkedInAPoolThatIsNotRight(t *testing.T) {
	p := wakePlan()
	if !impl.PoolOk(p, wakePool()) {
		t.Fatal("the pool is right where nothing is changed")
	}
	for name, x := range wrongPools() {
		if impl.PoolOk(p, x) {
			t.Errorf("%s: that is not right", name)
		}
		checkNoPool(t, p, x)
	}
	for _, x := range append(strangePools(), impl.Pool{}) {
		checkNoPool(t, p, x)
	}
	small := wakePlan()
	small.Tasks = 11
	checkNoPool(t, small, wakePool())
}

// eachState is a right task of that state; who is parked waits for the token of kind 0.
func eachState(state int64) impl.Task {
	k := impl.Task{State: state, Level: 2, Owner: -1, Value: 321, Turn: 40}
	switch state {
	case 2:
		k.Owner = 1
	case 3:
		k.Wait = 2
	}
	return k
}

func TestWokenOfEachState(t *testing.T) {
	p := wakePlan()
	values := []int64{-1, 0, 1, 5000, 9999, 10000}
	for _, length := range []int64{1, 2, 7, 14} {
		for _, at := range spots(int(length)) {
			for state := int64(1); state <= 5; state++ {
				x := poolOf(p, plainTasks(length, 0))
				x.Tasks[at] = eachState(state)
				for _, id := range []int64{-1, 0, 1, int64(at), length / 2, length - 1, length, length + 1, p.Tasks} {
					for _, value := range values {
						checkWoken(t, p, x, id, value)
					}
				}
			}
		}
	}
}

func TestWokenWhateverIsWaitedFor(t *testing.T) {
	p := wakePlan()
	for wait, count := range map[int64]int64{1: 9, 2: p.Tokens, 3: p.Futures} {
		for on := range count {
			for id := range int64(9) {
				if wait == 1 && id == on {
					continue
				}
				x := poolOf(p, plainTasks(9, 0))
				x.Tasks[id] = impl.Task{State: 3, Level: 3, Owner: -1, Wait: wait, On: on, Value: 5, Turn: 77}
				for _, stopped := range []bool{false, true} {
					x.Stopped = stopped
					checkWoken(t, p, x, id, 6)
					checkWokenAll(t, p, x, wait, on, 6)
				}
			}
		}
	}
}

func TestNobodyWokenWhereNobodyWaits(t *testing.T) {
	p := wakePlan()
	full := poolOf(p, plainTasks(14, 0))
	full.Turn = 1000000
	busy := wakePool()
	busy.Tasks = busy.Tasks[:2]
	values := append(farNumbers(), -1, 0, 1, 9999, 10000)
	for _, x := range []impl.Pool{impl.NewPool(p), full, busy, poolOf(p, nil)} {
		if !impl.PoolOk(p, x) {
			t.Fatalf("%+v is right", x)
		}
		for _, wait := range append(farNumbers(), -1, 0, 1, 2, 3, 4) {
			for _, on := range []int64{math.MinInt64, -1, 0, 1, 2, 3, 13, 14, math.MaxInt64} {
				for _, value := range values {
					checkChange(t, x, askWokenAll(p, wait, on, value), x, 0)
				}
			}
		}
	}
}

// Those who are not waiters on it are told apart by one thing alone: the State, the Wait, or the On.
func TestOnlyTheWaitersOnItAreWoken(t *testing.T) {
	p, x := wakePlan(), wakePool()
	for _, wait := range append(farNumbers(), -1, 0, 1, 2, 3, 4) {
		for _, on := range append(farNumbers(), -1, 0, 1, 2, 3, 11, 12, 13, 14) {
			for _, value := range append(farNumbers(), -1, 0, 4, 9999, 10000) {
				checkWokenAll(t, p, x, wait, on, value)
			}
		}
	}
}

// permutations of 0 to n less 1.
func permutations(n int64) [][]int64 {
	list := [][]int64{{}}
	for i := range n {
		var longer [][]int64
		for _, one := range list {
			for at := range len(one) + 1 {
				longer = append(longer, slices.Insert(slices.Clone(one), at, i))
			}
		}
		list = longer
	}
	return list
}

// Five wait: their Turns are in the order of their numbers, in the opposite one, and in all others; levels have no say.
func TestWokenAllInEveryOrder(t *testing.T) {
	p := wakePlan()
	for _, order := range permutations(5) {
		x := poolOf(p, plainTasks(11, 0))
		want := clonePool(x)
		for place, i := range order {
			id := 2*i + 1
			x.Tasks[id] = impl.Task{State: 3, Level: (i * 3) % 4, Owner: -1, Wait: 1, On: 4, Value: 70 + i, Turn: 100 + 10*int64(place)}
			want.Tasks[id] = impl.Task{State: 1, Level: (i * 3) % 4, Owner: -1, Value: 6, Turn: 999999}
		}
		x.Turn, want.Turn = 500, 505
		for place, i := range order {
			want.Tasks[2*i+1].Turn = 500 + int64(place)
		}
		checkChange(t, x, askWokenAll(p, 1, 4, 6), want, 5)
		checkChange(t, x, askWokenAll(p, 1, 4, 10000), x, -1)
	}
}

func TestWokenAllOfOneTurnByNumber(t *testing.T) {
	p := impl.Plan{Workers: 1, Tasks: 30, Levels: 2, Tokens: 1, Futures: 1}
	for count := int64(0); count <= 30; count++ {
		x := poolOf(p, parked(plainTasks(count, 0), 3, 0))
		want := poolOf(p, plainTasks(count, 1000))
		for i := range x.Tasks {
			x.Tasks[i].Turn = 9
			want.Tasks[i].Value = 4321
		}
		x.Turn, want.Turn = 1000, 1000+count
		checkChange(t, x, askWokenAll(p, 3, 0, 4321), want, count)
	}
}

func TestParkedOfEachState(t *testing.T) {
	p := wakePlan()
	for _, length := range []int64{1, 2, 7, 14} {
		for _, at := range spots(int(length)) {
			for state := int64(1); state <= 5; state++ {
				x := poolOf(p, plainTasks(length, 0))
				x.Tasks[at] = eachState(state)
				for _, id := range []int64{-1, 0, int64(at), length - 1, length, p.Tasks} {
					for wait := int64(-1); wait <= 5; wait++ {
						for on := int64(-1); on <= 15; on++ {
							checkParked(t, p, x, id, wait, on)
						}
					}
				}
			}
		}
	}
}

func TestParkedOnlyOnWhatThePlanHas(t *testing.T) {
	for _, kinds := range [][2]int64{{0, 0}, {0, 4}, {4, 0}, {1, 2}, {4, 4}} {
		p := impl.Plan{Workers: 2, Tasks: 5, Levels: 1, Tokens: kinds[0], Futures: kinds[1]}
		for length := int64(1); length <= 5; length++ {
			for id := range length {
				x := poolOf(p, plainTasks(length, 0))
				x.Tasks[id].State, x.Tasks[id].Owner = 2, 1
				for wait := int64(0); wait <= 4; wait++ {
					for on := int64(-1); on <= 6; on++ {
						checkParked(t, p, x, id, wait, on)
					}
				}
			}
		}
	}
}

func TestNoTurnIsMoreThanMaxTurn(t *testing.T) {
	p := wakePlan()
	for turn := int64(999994); turn <= 1000000; turn++ {
		for count := int64(0); count <= 5; count++ {
			x := poolOf(p, append(parked(plainTasks(count, 3), 2, 1), impl.Task{State: 2, Owner: 0}, impl.NewTask(3, 999993)))
			x.Turn = turn
			if count > 1 {
				x.Tasks[0].Turn, x.Tasks[count-1].Turn = x.Tasks[count-1].Turn, x.Tasks[0].Turn
			}
			checkWokenAll(t, p, x, 2, 1, 9)
			for id := range count {
				checkWoken(t, p, x, id, 9)
			}
			for wait := int64(1); wait <= 3; wait++ {
				checkParked(t, p, x, count, wait, 1)
			}
		}
	}
}

func TestTurnsAtTheEndByHand(t *testing.T) {
	p := wakePlan()
	waits := impl.Task{State: 3, Owner: -1, Wait: 3, On: 1, Turn: 8}
	for _, c := range []struct{ turn, count, told int64 }{
		{999998, 1, 1}, {999998, 2, 2}, {999998, 3, -1},
		{999999, 1, 1}, {999999, 2, -1}, {999999, 3, -1},
		{1000000, 1, -1}, {1000000, 2, -1}, {1000000, 3, -1}, {1000000, 0, 0},
	} {
		x := poolOf(p, append(slices.Repeat([]impl.Task{waits}, int(c.count)), impl.Task{State: 2, Owner: 1}))
		x.Turn = c.turn
		want := clonePool(x)
		for i := range c.told {
			want.Tasks[i] = impl.Task{State: 1, Owner: -1, Value: 3, Turn: c.turn + i}
			want.Turn = c.turn + i + 1
		}
		checkChange(t, x, askWokenAll(p, 3, 1, 3), want, c.told)
		want = clonePool(x)
		if c.turn < 1000000 {
			want.Tasks[c.count] = impl.Task{State: 3, Owner: -1, Wait: 2, On: 2, Turn: c.turn}
			want.Turn = c.turn + 1
		}
		checkChange(t, x, askParked(p, c.count, 2, 2), want, flag(c.turn < 1000000))
	}
}

func TestWakingWithNumbersAtTheEnds(t *testing.T) {
	p := wakePlan()
	for _, x := range []impl.Pool{wakePool(), mixedPool(p), edgePool(p), impl.NewPool(p)} {
		for _, far := range append(farNumbers(), -1, 1<<8+2, 1<<16+2, 1<<32+2, 1<<33+2) {
			for id := int64(-1); id <= 14; id++ {
				checkWoken(t, p, x, id, far)
				checkWoken(t, p, x, far, id)
				for n := int64(0); n <= 3; n++ {
					checkParked(t, p, x, id, n, far)
					checkParked(t, p, x, id, far, n)
					checkParked(t, p, x, far, n, id)
				}
			}
			checkWoken(t, p, x, far, far)
			checkParked(t, p, x, far, far, far)
			checkWokenAll(t, p, x, far, far, far)
		}
	}
}

func TestWakingInEveryRightPool(t *testing.T) {
	for _, p := range append(rightPlans(), middlePlan(), wakePlan()) {
		for _, x := range append(rightPools(p), impl.NewPool(p)) {
			length := int64(len(x.Tasks))
			for id := int64(-1); id <= length; id++ {
				checkWoken(t, p, x, id, 17)
				for wait := int64(0); wait <= 4; wait++ {
					checkWokenAll(t, p, x, wait, id, 17)
					for _, on := range []int64{-1, 0, 1, 3, id, length - 1, length} {
						checkParked(t, p, x, id, wait, on)
					}
				}
			}
		}
	}
}

// Whoever is woken is ready and waits no more; whoever is parked is the last one of the waiters; the pool is right all along.
func TestWhoIsWokenIsReadyAndWhoWaitsStandsInOrder(t *testing.T) {
	p := impl.Plan{Workers: 8, Tasks: 8, Levels: 1, Tokens: 1}
	for n, order := range permutations(5) {
		x := impl.NewPool(p)
		for w := range int64(8) {
			x.Tasks = append(x.Tasks, impl.Task{State: 2, Owner: w})
		}
		for i, id := range order {
			y, is := impl.ParkedBy(p, x, id, 2, 0)
			line := impl.WaitersOn(y, 2, 0)
			if !is || !impl.PoolOk(p, y) || !slices.Equal(line, order[:i+1]) || impl.RunBy(y, id) != -1 {
				t.Fatalf("%v are parked, one after the other: %v", order[:i+1], line)
			}
			x = y
		}
		all, count := impl.WokenAll(p, x, 2, 0, 5)
		if count != 5 || !impl.PoolOk(p, all) || len(impl.WaitersOn(all, 2, 0)) != 0 || !slices.Equal(impl.ReadyLine(all), order) {
			t.Fatalf("%v are all woken: %v", order, impl.ReadyLine(all))
		}
		for i, id := range order {
			y, is := impl.Woken(p, x, id, 5)
			if !is || !impl.PoolOk(p, y) || !slices.Equal(impl.WaitersOn(y, 2, 0), order[i+1:]) || !slices.Equal(impl.ReadyLine(y), order[:i+1]) {
				t.Fatalf("%v are woken, one after the other: %v", order[:i+1], impl.ReadyLine(y))
			}
			x = y
		}
		if !samePool(x, all) {
			t.Fatalf("order %d: one after the other or all at once is the same: %+v, %+v", n, x, all)
		}
	}
}

// Who is woken and parked again stands behind all who waited meanwhile.
func TestWhoIsParkedAgainStandsBehind(t *testing.T) {
	p := impl.Plan{Workers: 3, Tasks: 3, Levels: 2, Tokens: 1}
	x := impl.NewPool(p)
	for w := range int64(3) {
		x.Tasks = append(x.Tasks, impl.Task{State: 2, Level: w % 2, Owner: w})
		x, _ = impl.ParkedBy(p, x, w, 2, 0)
	}
	want := []int64{0, 1, 2}
	for round := range int64(30) {
		first := impl.WaitersOn(x, 2, 0)[0]
		y, is := impl.Woken(p, x, first, round)
		if !is || y.Tasks[first].Value != round || impl.FirstReady(y) != first {
			t.Fatalf("round %d: %+v", round, y)
		}
		y.Tasks[first].State, y.Tasks[first].Owner = 2, first
		x, is = impl.ParkedBy(p, y, first, 2, 0)
		want = append(want[1:], want[0])
		if !is || !impl.PoolOk(p, x) || !slices.Equal(impl.WaitersOn(x, 2, 0), want) || x.Turn != 6+2*round || x.Tasks[first].Value != round {
			t.Fatalf("round %d: %+v", round, x)
		}
	}
}

func TestWakingOfNilAndOfEmptyListsIsAlike(t *testing.T) {
	bare := impl.Plan{Workers: 2, Tasks: 4, Levels: 1}
	for _, p := range []impl.Plan{bare, wakePlan(), {}} {
		for _, tasks := range [][]impl.Task{nil, {}, plainTasks(3, 0), {{State: 2, Owner: 1}, {State: 3, Owner: -1, Wait: 1, On: 0}}} {
			none := impl.Pool{Tasks: tasks, Turn: 5}
			empty := impl.Pool{Tasks: tasks, Tokens: []int64{}, Futures: []impl.Future{}, Turn: 5}
			if len(tasks) == 0 {
				empty.Tasks = []impl.Task{}
				none.Tasks = nil
			}
			for name, ask := range map[string]asker{
				"woken": askWoken(p, 1, 8), "no such": askWoken(p, 0, 8), "woken all": askWokenAll(p, 1, 0, 8), "nobody": askWokenAll(p, 2, 0, 8),
				"parked": askParked(p, 0, 1, 1), "on itself": askParked(p, 0, 1, 0), "on no kind": askParked(p, 0, 2, 0),
			} {
				a, n := ask(none)
				b, m := ask(empty)
				if !samePool(a, b) || n != m {
					t.Errorf("%s: %+v and %d with nil, %+v and %d with empty lists", name, a, n, b, m)
				}
			}
		}
	}
	if y, is := impl.Woken(bare, impl.Pool{Turn: 5}, 0, 8); is || !samePool(y, impl.Pool{Turn: 5}) {
		t.Errorf("a pool of nothing is left as it is: %+v", y)
	}
	if y, n := impl.WokenAll(bare, impl.Pool{}, 1, 0, 8); n != 0 || !samePool(y, impl.Pool{}) {
		t.Errorf("the zero pool is right where there are no kinds: %+v, %d", y, n)
	}
}

func TestWakingAnswersAtEveryArgument(t *testing.T) {
	defer func() {
		if r := recover(); r != nil {
			t.Fatal("a function of chapter 5 panics:", r)
		}
	}()
	ends := []int64{math.MinInt64, -1, 0, 1, 2, 3, 9, 14, 9999, math.MaxInt64}
	pools := append(strangePools(), wakePool())
	for _, p := range rightPlans() {
		pools = append(pools, rightPools(p)...)
	}
	for _, p := range append(rightPlans(), impl.Plan{}, wakePlan(), impl.Plan{Workers: math.MaxInt64, Tasks: math.MinInt64, Tokens: -1}) {
		for _, x := range pools {
			right := impl.PoolOk(p, x)
			for _, a := range ends {
				for _, b := range ends {
					if right {
						checkWoken(t, p, x, a, b)
						checkParked(t, p, x, 0, a, b)
						checkWokenAll(t, p, x, a, b, 5)
					} else {
						checkChange(t, x, askWoken(p, a, b), impl.Pool{}, 0)
						checkChange(t, x, askParked(p, 0, a, b), impl.Pool{}, 0)
						checkChange(t, x, askWokenAll(p, a, b, 5), impl.Pool{}, -1)
					}
				}
			}
		}
	}
}
