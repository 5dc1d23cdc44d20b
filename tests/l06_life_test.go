package tests

import (
	"math"
	"slices"
	"testing"

	"loop.example/g00706/impl"
)

// liver is a call of chapter 6 with all but its pool told.
type liver func(x impl.Pool) (impl.Pool, impl.Answer)

func liveSpawned(p impl.Plan, w int64, level int64) liver {
	return func(x impl.Pool) (impl.Pool, impl.Answer) { return impl.Spawned(p, x, w, level) }
}

func liveTaken(p impl.Plan, w int64) liver {
	return func(x impl.Pool) (impl.Pool, impl.Answer) { return impl.Taken(p, x, w) }
}

func liveYielded(p impl.Plan, w int64) liver {
	return func(x impl.Pool) (impl.Pool, impl.Answer) { return impl.Yielded(p, x, w) }
}

func liveEnded(p impl.Plan, w int64, value int64) liver {
	return func(x impl.Pool) (impl.Pool, impl.Answer) { return impl.Ended(p, x, w, value) }
}

// checkLife asks as checkChange does, of memory too; reply and out are the whole Answer.
func checkLife(t *testing.T, x impl.Pool, live liver, want impl.Pool, reply int64, out int64) {
	t.Helper()
	told := impl.Answer{Reply: reply, Out: out}
	checkChange(t, x, func(x impl.Pool) (impl.Pool, int64) {
		t.Helper()
		y, a := live(x)
		if a != told {
			t.Fatalf("%+v: told is %+v, not %+v", x, told, a)
		}
		return y, 0
	}, want, 0)
}

// runBy is -1 where that worker runs none.
func runBy(x impl.Pool, w int64) int64 {
	return int64(slices.IndexFunc(x.Tasks, func(k impl.Task) bool { return k.State == 2 && k.Owner == w }))
}

// checkSpawned, checkTaken, checkYielded and checkEnded are told what is right by the words of the chapter, for a plan and a pool that are right.
func checkSpawned(t *testing.T, p impl.Plan, x impl.Pool, w int64, level int64) {
	t.Helper()
	live, count := liveSpawned(p, w, level), int64(len(x.Tasks))
	switch {
	case w < 0 || w >= p.Workers || level < 0 || level >= p.Levels:
		checkLife(t, x, live, x, 8, 0)
	case x.Stopped:
		checkLife(t, x, live, x, 6, 0)
	case count == p.Tasks || x.Turn == 1000000:
		checkLife(t, x, live, x, 4, 0)
	default:
		want := clonePool(x)
		want.Tasks = append(want.Tasks, impl.Task{State: 1, Level: level, Owner: -1, Turn: x.Turn})
		want.Turn++
		checkLife(t, x, live, want, 1, count)
	}
}

func checkTaken(t *testing.T, p impl.Plan, x impl.Pool, w int64) {
	t.Helper()
	live, line := liveTaken(p, w), readyLine(x)
	switch {
	case w < 0 || w >= p.Workers:
		checkLife(t, x, live, x, 8, 0)
	case runBy(x, w) >= 0:
		checkLife(t, x, live, x, 3, 0)
	case len(line) == 0 && x.Stopped:
		checkLife(t, x, live, x, 6, 0)
	case len(line) == 0:
		checkLife(t, x, live, x, 2, 0)
	default:
		want, k := clonePool(x), x.Tasks[line[0]]
		want.Tasks[line[0]] = impl.Task{State: 2, Level: k.Level, Owner: w, Value: k.Value, Turn: k.Turn}
		checkLife(t, x, live, want, 1, line[0])
	}
}

func checkYielded(t *testing.T, p impl.Plan, x impl.Pool, w int64) {
	t.Helper()
	live, id := liveYielded(p, w), runBy(x, w)
	switch {
	case w < 0 || w >= p.Workers:
		checkLife(t, x, live, x, 8, 0)
	case id < 0:
		checkLife(t, x, live, x, 2, 0)
	case x.Turn == 1000000:
		checkLife(t, x, live, x, 4, 0)
	default:
		want, k := clonePool(x), x.Tasks[id]
		want.Tasks[id] = impl.Task{State: 1, Level: k.Level, Owner: -1, Value: k.Value, Turn: x.Turn}
		want.Turn++
		checkLife(t, x, live, want, 1, id)
	}
}

func checkEnded(t *testing.T, p impl.Plan, x impl.Pool, w int64, value int64) {
	t.Helper()
	live, id := liveEnded(p, w, value), runBy(x, w)
	line := waitersOn(x, 1, id)
	count := int64(len(line))
	switch {
	case w < 0 || w >= p.Workers || value < 0 || value > 9999:
		checkLife(t, x, live, x, 8, 0)
	case id < 0:
		checkLife(t, x, live, x, 2, 0)
	case x.Turn > 1000000-count:
		checkLife(t, x, live, x, 4, 0)
	default:
		want, k := clonePool(x), x.Tasks[id]
		want.Tasks[id] = impl.Task{State: 4, Level: k.Level, Owner: -1, Value: value, Turn: k.Turn}
		for i, one := range line {
			want.Tasks[one] = wokenTask(x.Tasks[one], value, x.Turn+int64(i))
		}
		want.Turn += count
		checkLife(t, x, live, want, 1, count)
	}
}

// checkLives asks all four, of one worker and one number that is a level and a value.
func checkLives(t *testing.T, p impl.Plan, x impl.Pool, w int64, n int64) {
	t.Helper()
	checkSpawned(t, p, x, w, n)
	checkTaken(t, p, x, w)
	checkYielded(t, p, x, w)
	checkEnded(t, p, x, w, n)
}

func lifePlan() impl.Plan {
	return impl.Plan{Workers: 4, Tasks: 14, Levels: 3, Tokens: 3, Futures: 3}
}

// lifePool: worker 3 runs task 1, for which 8, 2 and 11 wait, in this order; for the token and the Future of that number others wait. Worker 0 runs task 9, for which nobody waits; worker 2 runs task 6, for which task 0 does; worker 1 runs none.
func lifePool() impl.Pool {
	return impl.Pool{
		Tasks: []impl.Task{
			{State: 3, Level: 1, Owner: -1, Wait: 1, On: 6, Value: 10, Turn: 3},
			{State: 2, Level: 2, Owner: 3, Value: 21, Turn: 14},
			{State: 3, Level: 0, Owner: -1, Wait: 1, On: 1, Value: 32, Turn: 9},
			{State: 1, Level: 1, Owner: -1, Value: 43, Turn: 5},
			{State: 3, Level: 2, Owner: -1, Wait: 2, On: 1, Value: 54, Turn: 1},
			{State: 1, Level: 0, Owner: -1, Value: 65, Turn: 0},
			{State: 2, Level: 0, Owner: 2, Value: 76, Turn: 4},
			{State: 1, Level: 1, Owner: -1, Value: 87, Turn: 2},
			{State: 3, Level: 2, Owner: -1, Wait: 1, On: 1, Value: 98, Turn: 6},
			{State: 2, Level: 1, Owner: 0, Value: 109, Turn: 19},
			{State: 3, Level: 0, Owner: -1, Wait: 3, On: 1, Value: 110, Turn: 8},
			{State: 3, Level: 1, Owner: -1, Wait: 1, On: 1, Value: 121, Turn: 17},
		},
		Tokens:  []int64{3, 0, 100},
		Futures: []impl.Future{{Set: true, Value: 7}, {}, {}},
		Turn:    20,
	}
}

// changed is a copy of x to which that was done.
func changed(x impl.Pool, change func(y *impl.Pool)) impl.Pool {
	y := clonePool(x)
	change(&y)
	return y
}

func TestRepliesAreThoseOfTheDocument(t *testing.T) {
	got := [8]int{impl.RpOk, impl.RpNone, impl.RpBusy, impl.RpFull, impl.RpGone, impl.RpStopped, impl.RpParked, impl.RpBad}
	if got != [8]int{1, 2, 3, 4, 5, 6, 7, 8} {
		t.Fatal(got)
	}
}

func TestSpawnedByHand(t *testing.T) {
	p, x := lifePlan(), lifePool()
	for w := range int64(4) {
		for level := range int64(3) {
			want := changed(x, func(y *impl.Pool) {
				y.Tasks = append(y.Tasks, impl.Task{State: 1, Level: level, Owner: -1, Wait: 0, On: 0, Value: 0, Turn: 20})
				y.Turn = 21
			})
			checkLife(t, x, liveSpawned(p, w, level), want, 1, 12)
		}
		for _, level := range []int64{-1, 3, 4} {
			checkLife(t, x, liveSpawned(p, w, level), x, 8, 0)
		}
	}
	first := impl.Pool{Tasks: []impl.Task{{State: 1, Level: 2, Owner: -1, Turn: 1}}, Tokens: []int64{0, 0, 0}, Futures: make([]impl.Future, 3), Turn: 2}
	checkLife(t, impl.NewPool(p), liveSpawned(p, 0, 2), first, 1, 0)
	early := impl.NewPool(p)
	early.Turn = 0
	first.Turn, first.Tasks[0].Turn = 1, 0
	checkLife(t, early, liveSpawned(p, 3, 2), first, 1, 0)
}

func TestTakenByHand(t *testing.T) {
	p, x := lifePlan(), lifePool()
	want := changed(x, func(y *impl.Pool) {
		y.Tasks[7] = impl.Task{State: 2, Level: 1, Owner: 1, Value: 87, Turn: 2}
	})
	checkLife(t, x, liveTaken(p, 1), want, 1, 7)
	for _, w := range []int64{0, 2, 3} {
		checkLife(t, x, liveTaken(p, w), x, 3, 0)
	}
	// One after the other they come up from the line: 7, 3 and 5.
	free := changed(x, func(y *impl.Pool) { y.Tasks = slices.Delete(y.Tasks, 9, 10) })
	next := changed(free, func(y *impl.Pool) { y.Tasks[7].State, y.Tasks[7].Owner = 2, 0 })
	checkLife(t, free, liveTaken(p, 0), next, 1, 7)
	last := changed(next, func(y *impl.Pool) { y.Tasks[3].State, y.Tasks[3].Owner = 2, 1 })
	checkLife(t, next, liveTaken(p, 1), last, 1, 3)
	bare := changed(x, func(y *impl.Pool) { y.Tasks[3].State, y.Tasks[5].State, y.Tasks[7].State = 4, 4, 5 })
	checkLife(t, bare, liveTaken(p, 1), bare, 2, 0)
	bare.Stopped = true
	checkLife(t, bare, liveTaken(p, 1), bare, 6, 0)
	for _, w := range []int64{0, 2, 3} {
		checkLife(t, bare, liveTaken(p, w), bare, 3, 0)
	}
	stopped := changed(x, func(y *impl.Pool) { y.Stopped = true })
	want.Stopped = true
	checkLife(t, stopped, liveTaken(p, 1), want, 1, 7)
}

func TestYieldedByHand(t *testing.T) {
	p, x := lifePlan(), lifePool()
	for w, id := range map[int64]int64{3: 1, 2: 6, 0: 9} {
		want := changed(x, func(y *impl.Pool) {
			k := x.Tasks[id]
			y.Tasks[id] = impl.Task{State: 1, Level: k.Level, Owner: -1, Wait: 0, On: 0, Value: k.Value, Turn: 20}
			y.Turn = 21
		})
		checkLife(t, x, liveYielded(p, w), want, 1, id)
		want.Stopped = true
		checkLife(t, changed(x, func(y *impl.Pool) { y.Stopped = true }), liveYielded(p, w), want, 1, id)
	}
	checkLife(t, x, liveYielded(p, 1), x, 2, 0)
	none := impl.NewPool(p)
	checkLife(t, none, liveYielded(p, 0), none, 2, 0)
}

func TestEndedByHand(t *testing.T) {
	p, x := lifePlan(), lifePool()
	for _, value := range []int64{0, 1, 9998, 9999} {
		want := changed(x, func(y *impl.Pool) {
			y.Tasks[1] = impl.Task{State: 4, Level: 2, Owner: -1, Value: value, Turn: 14}
			y.Tasks[8] = impl.Task{State: 1, Level: 2, Owner: -1, Value: value, Turn: 20}
			y.Tasks[2] = impl.Task{State: 1, Level: 0, Owner: -1, Value: value, Turn: 21}
			y.Tasks[11] = impl.Task{State: 1, Level: 1, Owner: -1, Value: value, Turn: 22}
			y.Turn = 23
		})
		checkLife(t, x, liveEnded(p, 3, value), want, 1, 3)
		want = changed(x, func(y *impl.Pool) {
			y.Tasks[6] = impl.Task{State: 4, Level: 0, Owner: -1, Value: value, Turn: 4}
			y.Tasks[0] = impl.Task{State: 1, Level: 1, Owner: -1, Value: value, Turn: 20}
			y.Turn = 21
		})
		checkLife(t, x, liveEnded(p, 2, value), want, 1, 1)
		want = changed(x, func(y *impl.Pool) {
			y.Tasks[9] = impl.Task{State: 4, Level: 1, Owner: -1, Value: value, Turn: 19}
		})
		checkLife(t, x, liveEnded(p, 0, value), want, 1, 0)
		checkLife(t, x, liveEnded(p, 1, value), x, 2, 0)
	}
	for w := range int64(4) {
		checkLife(t, x, liveEnded(p, w, -1), x, 8, 0)
		checkLife(t, x, liveEnded(p, w, 10000), x, 8, 0)
	}
}

// checkNoLife asks for the zero Pool and RpBad: of calls that would be done in lifePool, and of ones that would be refused.
func checkNoLife(t *testing.T, p impl.Plan, x impl.Pool) {
	t.Helper()
	low, high := int64(math.MinInt64), int64(math.MaxInt64)
	for _, live := range []liver{
		liveSpawned(p, 0, 0), liveSpawned(p, 1, 2), liveSpawned(p, 0, 3), liveSpawned(p, -1, 0), liveSpawned(p, high, low),
		liveTaken(p, 1), liveTaken(p, 0), liveTaken(p, 4), liveTaken(p, low),
		liveYielded(p, 0), liveYielded(p, 1), liveYielded(p, -1), liveYielded(p, high),
		liveEnded(p, 0, 5), liveEnded(p, 3, 5), liveEnded(p, 1, 5), liveEnded(p, 3, 10000), liveEnded(p, 4, 5), liveEnded(p, low, high),
	} {
		checkLife(t, x, live, impl.Pool{}, 8, 0)
	}
}

func TestNothingLivesInAPlanThatIsNotRight(t *testing.T) {
	pools := []impl.Pool{lifePool(), {}, impl.NewPool(lifePlan()), changed(lifePool(), func(y *impl.Pool) { y.Stopped, y.Turn = true, 1000000 })}
	for _, base := range append(rightPlans(), lifePlan()) {
		for _, f := range planFields() {
			for _, n := range append(oddNumbers(), f.least-1, f.most+1) {
				p := base
				f.put(&p, n)
				for _, x := range pools {
					checkNoLife(t, p, x)
				}
			}
		}
	}
	for _, x := range pools {
		checkNoLife(t, impl.Plan{}, x)
	}
}

func TestNothingLivesInAPoolThatIsNotRight(t *testing.T) {
	p := lifePlan()
	if !impl.PoolOk(p, lifePool()) {
		t.Fatal("the pool is right where nothing is changed")
	}
	// What is wrong is elsewhere: no call names that task, or that kind.
	for _, change := range []func(y *impl.Pool){
		func(y *impl.Pool) { y.Tasks[4].State = 6 },
		func(y *impl.Pool) { y.Tasks[4] = impl.Task{} },
		func(y *impl.Pool) { y.Tasks[5].Level = 3 },
		func(y *impl.Pool) { y.Tasks[5].Owner = 1 },
		func(y *impl.Pool) { y.Tasks[6].Owner = 3 },
		func(y *impl.Pool) { y.Tasks[6].Owner = 4 },
		func(y *impl.Pool) { y.Tasks[0].On = 0 },
		func(y *impl.Pool) { y.Tasks[0].On = 12 },
		func(y *impl.Pool) { y.Tasks[10].On = 3 },
		func(y *impl.Pool) { y.Tasks[5].Value = 10000 },
		func(y *impl.Pool) { y.Tasks[5].Value = -1 },
		func(y *impl.Pool) { y.Tasks[5].Turn = 20 },
		func(y *impl.Pool) { y.Tasks[5].Turn = -1 },
		func(y *impl.Pool) { y.Tasks = append(y.Tasks, plainTasks(3, 0)...) },
		func(y *impl.Pool) { y.Tokens[2] = 101 },
		func(y *impl.Pool) { y.Tokens[2] = -1 },
		func(y *impl.Pool) { y.Tokens = y.Tokens[:2] },
		func(y *impl.Pool) { y.Tokens = append(y.Tokens, 0) },
		func(y *impl.Pool) { y.Futures = y.Futures[:2] },
		func(y *impl.Pool) { y.Futures = append(y.Futures, impl.Future{}) },
		func(y *impl.Pool) { y.Futures[2].Value = 1 },
		func(y *impl.Pool) { y.Turn = 19 },
		func(y *impl.Pool) { y.Turn = -1 },
		func(y *impl.Pool) { y.Turn = 1000001 },
		func(y *impl.Pool) { y.Turn = math.MaxInt64 },
		func(y *impl.Pool) { y.Turn = math.MinInt64 },
	} {
		x := changed(lifePool(), change)
		if impl.PoolOk(p, x) {
			t.Errorf("that is not right: %+v", x)
		}
		checkNoLife(t, p, x)
		x.Stopped = true
		checkNoLife(t, p, x)
	}
	for _, x := range append(strangePools(), impl.Pool{}) {
		checkNoLife(t, p, x)
	}
	small := lifePlan()
	small.Tasks = 11
	checkNoLife(t, small, lifePool())
}

// In each of these pools, each call of a worker that there is meets another refusal, or none; of one that there is not, none of these counts.
func TestWhoIsNoWorkerIsToldSoAheadOfAllElse(t *testing.T) {
	p, x := lifePlan(), lifePool()
	p.Tasks = 12
	full := func(y *impl.Pool) { y.Turn = 1000000 }
	stop := func(y *impl.Pool) { y.Stopped = true }
	idle := func(y *impl.Pool) { y.Tasks = plainTasks(12, 0) }
	none := func(y *impl.Pool) { y.Tasks = nil }
	for _, y := range []impl.Pool{
		x, changed(x, full), changed(x, stop), changed(changed(x, full), stop),
		changed(x, idle), changed(changed(x, idle), stop), changed(x, none), changed(changed(x, none), stop), changed(changed(x, none), full),
	} {
		if !impl.PoolOk(p, y) {
			t.Fatalf("%+v is right", y)
		}
		for _, w := range append(farNumbers(), -1, 4, 5, 8) {
			for _, n := range []int64{math.MinInt64, -1, 0, 2, 3, 9999, 10000, math.MaxInt64} {
				checkLife(t, y, liveSpawned(p, w, n), y, 8, 0)
				checkLife(t, y, liveEnded(p, w, n), y, 8, 0)
			}
			checkLife(t, y, liveTaken(p, w), y, 8, 0)
			checkLife(t, y, liveYielded(p, w), y, 8, 0)
		}
		for w := range int64(4) {
			for _, n := range []int64{-1, 0, 2, 3, 10000} {
				checkLives(t, p, y, w, n)
			}
		}
	}
}

func TestWorkersAreThoseOfThePlan(t *testing.T) {
	for workers := int64(1); workers <= 8; workers++ {
		p := impl.Plan{Workers: workers, Tasks: 30, Levels: 2, Tokens: 1}
		run := impl.NewPool(p)
		run.Turn = 99
		for w := range workers {
			run.Tasks = append(run.Tasks, impl.Task{State: 2, Owner: w, Turn: w})
		}
		ready := changed(run, func(y *impl.Pool) { y.Tasks = plainTasks(workers, 4) })
		for w := int64(-2); w <= 10; w++ {
			reply := int64(8)
			if w >= 0 && w < workers {
				reply = 1
			}
			_, spawned := impl.Spawned(p, run, w, 1)
			_, taken := impl.Taken(p, ready, w)
			_, yielded := impl.Yielded(p, run, w)
			_, ended := impl.Ended(p, run, w, 3)
			if spawned.Reply != reply || taken.Reply != reply || yielded.Reply != reply || ended.Reply != reply {
				t.Errorf("worker %d of %d: %d %d %d %d", w, workers, spawned.Reply, taken.Reply, yielded.Reply, ended.Reply)
			}
			checkLives(t, p, run, w, 1)
			checkLives(t, p, ready, w, 1)
		}
	}
}

// Each of the refusals of Spawned, alone and with each other one, and at the end of the Turns: the one named first is told.
func TestSpawnedToldByTheFirstOfItsRefusals(t *testing.T) {
	p := lifePlan()
	for _, c := range []struct {
		level   int64
		stopped bool
		count   int64
		turn    int64
		reply   int64
	}{
		{2, false, 13, 999999, 1}, {0, false, 13, 999999, 1}, {2, false, 13, 1000000, 4}, {2, false, 14, 999999, 4}, {2, false, 14, 1000000, 4},
		{2, true, 13, 999999, 6}, {2, true, 14, 999999, 6}, {2, true, 13, 1000000, 6}, {2, true, 14, 1000000, 6},
		{3, false, 13, 999999, 8}, {3, false, 14, 999999, 8}, {3, true, 13, 999999, 8}, {3, true, 14, 999999, 8}, {3, false, 13, 1000000, 8}, {3, true, 14, 1000000, 8},
		{-1, false, 13, 999999, 8}, {-1, false, 14, 999999, 8}, {-1, true, 13, 999999, 8}, {-1, true, 14, 999999, 8}, {-1, false, 13, 1000000, 8}, {-1, true, 14, 1000000, 8},
	} {
		x := poolOf(p, plainTasks(c.count, 0))
		x.Stopped, x.Turn = c.stopped, c.turn
		want, out := clonePool(x), int64(0)
		if c.reply == 1 {
			want.Tasks = append(want.Tasks, impl.Task{State: 1, Level: c.level, Owner: -1, Turn: 999999})
			want.Turn, out = 1000000, 13
		}
		for w := range int64(4) {
			checkLife(t, x, liveSpawned(p, w, c.level), want, c.reply, out)
		}
	}
}

func TestSpawnedUntilThereIsNoRoom(t *testing.T) {
	for _, base := range append(rightPlans(), lifePlan()) {
		for _, tasks := range []int64{1, 2, 7, 29, 30} {
			p := base
			p.Tasks = tasks
			x := impl.NewPool(p)
			for i := range tasks {
				checkSpawned(t, p, x, i%p.Workers, i%p.Levels)
				checkSpawned(t, p, x, i%p.Workers, p.Levels)
				y, a := impl.Spawned(p, x, i%p.Workers, i%p.Levels)
				if a != (impl.Answer{Reply: 1, Out: i}) || !impl.PoolOk(p, y) || y.Tasks[i].Turn != i+1 {
					t.Fatalf("task %d of %d: %+v, %+v", i, tasks, a, y)
				}
				x = y
			}
			checkLife(t, x, liveSpawned(p, 0, 0), x, 4, 0)
		}
	}
}

// Six are ready, of levels and turns in every order: who is taken is the first of the line, and then the next one.
func TestWhoeverIsTakenIsTheFirstInLine(t *testing.T) {
	p := impl.Plan{Workers: 6, Tasks: 7, Levels: 3, Tokens: 1}
	for n, order := range permutations(6) {
		x := poolOf(p, nil)
		for i, turn := range order {
			x.Tasks = append(x.Tasks, impl.Task{State: 1, Level: int64(i*n) % 3, Owner: -1, Value: int64(i), Turn: turn})
		}
		line := readyLine(x)
		for w, id := range line {
			checkTaken(t, p, x, int64(w))
			y, a := impl.Taken(p, x, int64(w))
			if a != (impl.Answer{Reply: 1, Out: id}) || impl.RunBy(y, int64(w)) != id || !slices.Equal(impl.ReadyLine(y), line[w+1:]) {
				t.Fatalf("%+v: worker %d takes %d, not %+v", x, w, id, a)
			}
			checkLife(t, y, liveTaken(p, int64(w)), y, 3, 0)
			x = y
		}
	}
}

func TestTakenOfOneLevelByTurnAndOfTwoByLevel(t *testing.T) {
	p := lifePlan()
	for _, c := range []struct {
		level [3]int64
		turn  [3]int64
		first int64
	}{
		{[3]int64{0, 0, 0}, [3]int64{3, 2, 1}, 2}, {[3]int64{1, 1, 1}, [3]int64{2, 1, 3}, 1}, {[3]int64{2, 2, 2}, [3]int64{1, 2, 3}, 0},
		{[3]int64{0, 1, 2}, [3]int64{1, 2, 3}, 2}, {[3]int64{0, 2, 1}, [3]int64{1, 3, 2}, 1}, {[3]int64{2, 1, 0}, [3]int64{3, 2, 1}, 0},
		{[3]int64{1, 1, 0}, [3]int64{9, 8, 1}, 1}, {[3]int64{1, 1, 1}, [3]int64{4, 4, 4}, 0}, {[3]int64{0, 2, 2}, [3]int64{4, 4, 4}, 1},
	} {
		x := poolOf(p, nil)
		for i := range 3 {
			x.Tasks = append(x.Tasks, impl.Task{State: 1, Level: c.level[i], Owner: -1, Turn: c.turn[i]})
		}
		for w := range int64(4) {
			want := clonePool(x)
			want.Tasks[c.first].State, want.Tasks[c.first].Owner = 2, w
			checkLife(t, x, liveTaken(p, w), want, 1, c.first)
		}
	}
}

// One task, of each state, alone and among others of which none is ready: who is stopped with none ready is told so.
func TestTakenOfEachState(t *testing.T) {
	p := lifePlan()
	for _, length := range []int64{1, 2, 7, 14} {
		for _, at := range spots(int(length)) {
			for state := int64(1); state <= 5; state++ {
				for _, rest := range []int64{1, 4} {
					x := poolOf(p, plainTasks(length, 0))
					for i := range x.Tasks {
						x.Tasks[i].State = rest
					}
					x.Tasks[at] = eachState(state)
					for w := int64(-1); w <= 4; w++ {
						x.Stopped = false
						checkLives(t, p, x, w, 1)
						x.Stopped = true
						checkLives(t, p, x, w, 1)
					}
				}
			}
		}
	}
}

// Four wait for the one that ends, in every order of their turns; others wait for a token, for a Future and for another task.
func TestEndedWakesInEveryOrder(t *testing.T) {
	p := lifePlan()
	for _, ends := range []int64{0, 1, 2, 11} {
		for _, order := range permutations(4) {
			x := poolOf(p, plainTasks(12, 0))
			x.Turn = 500
			x.Tasks[ends] = impl.Task{State: 2, Level: 1, Owner: 2, Value: 5, Turn: 499}
			x.Tasks[9] = impl.Task{State: 3, Level: 2, Owner: -1, Wait: 2, On: min(ends, 2), Value: 1, Turn: 90}
			x.Tasks[10] = impl.Task{State: 3, Level: 2, Owner: -1, Wait: 3, On: min(ends, 2), Value: 2, Turn: 91}
			x.Tasks[8] = impl.Task{State: 3, Level: 2, Owner: -1, Wait: 1, On: ends ^ 3, Value: 3, Turn: 92}
			if x.Tasks[8].On == 8 {
				x.Tasks[8].On = 9
			}
			for place, i := range order {
				x.Tasks[i+3] = impl.Task{State: 3, Level: i % 3, Owner: -1, Wait: 1, On: ends, Value: 70 + i, Turn: 100 + 10*int64(place)}
			}
			want := clonePool(x)
			want.Tasks[ends] = impl.Task{State: 4, Level: 1, Owner: -1, Value: 6, Turn: 499}
			want.Turn = 504
			for place, i := range order {
				want.Tasks[i+3] = impl.Task{State: 1, Level: i % 3, Owner: -1, Value: 6, Turn: 500 + int64(place)}
			}
			checkLife(t, x, liveEnded(p, 2, 6), want, 1, 4)
			checkLife(t, x, liveEnded(p, 1, 6), x, 2, 0)
			checkLife(t, x, liveEnded(p, 2, 10000), x, 8, 0)
		}
	}
}

func TestEndedWakesAsManyAsWait(t *testing.T) {
	p := impl.Plan{Workers: 2, Tasks: 30, Levels: 2, Tokens: 1, Futures: 1}
	for count := int64(0); count < 30; count++ {
		for _, ends := range []int64{0, count / 2, count} {
			x := poolOf(p, parked(plainTasks(count+1, 0), 1, ends))
			x.Tasks[ends] = impl.Task{State: 2, Owner: 1, Turn: 7}
			want := clonePool(x)
			x.Turn, want.Turn = 1000, 1000+count
			turn := int64(1000)
			for i := range want.Tasks {
				if int64(i) == ends {
					want.Tasks[i] = impl.Task{State: 4, Owner: -1, Value: 4321, Turn: 7}
					continue
				}
				want.Tasks[i] = impl.Task{State: 1, Owner: -1, Value: 4321, Turn: turn}
				turn++
			}
			checkLife(t, x, liveEnded(p, 1, 4321), want, 1, count)
		}
	}
}

func TestEndedRefusesByTheFirstThatApplies(t *testing.T) {
	p := lifePlan()
	x := poolOf(p, append(parked(plainTasks(2, 0), 1, 2), impl.Task{State: 2, Owner: 3}))
	x.Turn = 999999
	for _, c := range [][3]int64{
		{3, 0, 4}, {3, 9999, 4}, {3, -1, 8}, {3, 10000, 8}, {1, 0, 2}, {1, 9999, 2}, {1, -1, 8}, {1, 10000, 8},
		{-1, 0, 8}, {4, 9999, 8}, {-1, -1, 8}, {4, 10000, 8},
	} {
		checkLife(t, x, liveEnded(p, c[0], c[1]), x, c[2], 0)
	}
}

// At the end of the Turns: what takes none goes on, what takes one or more is refused, but behind all other refusals.
func TestLivesAtTheEndOfTheTurns(t *testing.T) {
	p := lifePlan()
	for _, turn := range []int64{999998, 999999, 1000000} {
		left := 1000000 - turn
		for count := int64(0); count <= 4; count++ {
			x := poolOf(p, append(parked(plainTasks(count, 3), 1, count), impl.Task{State: 2, Level: 1, Owner: 2, Value: 8, Turn: 9}, impl.NewTask(2, 30)))
			x.Turn = turn
			want, reply, out := clonePool(x), int64(4), int64(0)
			if count <= left {
				want.Tasks[count] = impl.Task{State: 4, Level: 1, Owner: -1, Value: 77, Turn: 9}
				for i := range count {
					want.Tasks[i] = impl.Task{State: 1, Owner: -1, Value: 77, Turn: turn + i}
				}
				want.Turn, reply, out = turn+count, 1, count
			}
			checkLife(t, x, liveEnded(p, 2, 77), want, reply, out)
			checkLife(t, x, liveEnded(p, 0, 77), x, 2, 0)
			checkLife(t, x, liveEnded(p, 2, 10000), x, 8, 0)
			checkLife(t, x, liveYielded(p, 0), x, 2, 0)
			checkLife(t, x, liveTaken(p, 2), x, 3, 0)
			want = clonePool(x)
			want.Tasks[count+1] = impl.Task{State: 2, Level: 2, Owner: 3, Turn: 30}
			checkLife(t, x, liveTaken(p, 3), want, 1, count+1)
			want = clonePool(x)
			reply, out = 4, 0
			if left > 0 {
				want.Tasks[count] = impl.Task{State: 1, Level: 1, Owner: -1, Value: 8, Turn: turn}
				want.Turn, reply, out = turn+1, 1, count
			}
			checkLife(t, x, liveYielded(p, 2), want, reply, out)
			want = clonePool(x)
			reply, out = 4, 0
			if left > 0 {
				want.Tasks = append(want.Tasks, impl.Task{State: 1, Level: 2, Owner: -1, Turn: turn})
				want.Turn, reply, out = turn+1, 1, count+2
			}
			checkLife(t, x, liveSpawned(p, 0, 2), want, reply, out)
		}
	}
}

func TestLivesWithNumbersAtTheEnds(t *testing.T) {
	p := lifePlan()
	for _, x := range []impl.Pool{lifePool(), mixedPool(p), edgePool(p), impl.NewPool(p)} {
		for _, far := range append(farNumbers(), -1, 1<<8+2, 1<<16+2, 1<<32+2, 1<<33+2) {
			for w := int64(-1); w <= 4; w++ {
				checkLives(t, p, x, w, far)
				checkLives(t, p, x, far, w)
			}
			checkLives(t, p, x, far, far)
		}
	}
}

func TestLivesInEveryRightPool(t *testing.T) {
	for _, p := range append(rightPlans(), middlePlan(), lifePlan()) {
		for _, x := range append(rightPools(p), impl.NewPool(p)) {
			for w := int64(-1); w <= p.Workers; w++ {
				for _, n := range []int64{-1, 0, 1, p.Levels - 1, p.Levels, 9999, 10000} {
					checkLives(t, p, x, w, n)
				}
			}
		}
	}
}

// checkBeside asks what is true of two pools, one of which a call has made of the other.
func checkBeside(t *testing.T, p impl.Plan, x impl.Pool, y impl.Pool, a impl.Answer) {
	t.Helper()
	if !impl.PoolOk(p, y) {
		t.Fatalf("%+v: then not right: %+v", x, y)
	}
	if a.Reply != 1 && a.Reply != 7 && !samePool(x, y) {
		t.Fatalf("%+v: refused with %+v, then %+v", x, a, y)
	}
	runs := map[int64]bool{}
	for _, k := range y.Tasks {
		if k.State == 2 && runs[k.Owner] {
			t.Fatalf("worker %d runs two: %+v", k.Owner, y)
		}
		runs[k.Owner] = true
	}
	for i, k := range x.Tasks {
		if k.State == 2 && y.Tasks[i].State == 2 && k.Owner != y.Tasks[i].Owner {
			t.Fatalf("task %d goes from who runs it to another one: %+v, then %+v", i, x, y)
		}
	}
}

// In all pools that a few calls make of the new one, each call is what the chapter tells.
func TestLivesFromTheBeginning(t *testing.T) {
	p := impl.Plan{Workers: 2, Tasks: 3, Levels: 2}
	pools := []impl.Pool{impl.NewPool(p)}
	for range 8 {
		var next []impl.Pool
		for _, x := range pools {
			for _, w := range []int64{0, 1} {
				for _, live := range []liver{liveSpawned(p, w, 0), liveSpawned(p, w, 1), liveTaken(p, w), liveYielded(p, w), liveEnded(p, w, w+7)} {
					y, a := live(x)
					checkBeside(t, p, x, y, a)
					if a.Reply == 1 {
						next = append(next, y)
					}
				}
				checkLives(t, p, x, w, w)
			}
		}
		pools = next
		slices.SortFunc(pools, comparePools)
		pools = slices.CompactFunc(pools, samePool)
	}
	if len(pools) < 900 {
		t.Fatalf("eight calls make more than these %d pools", len(pools))
	}
}

// comparePools is asked of pools without tokens and Futures.
func comparePools(a impl.Pool, b impl.Pool) int {
	return slices.CompareFunc(a.Tasks, b.Tasks, func(k impl.Task, l impl.Task) int {
		return slices.Compare(
			[]int64{k.State, k.Level, k.Owner, k.Wait, k.On, k.Value, k.Turn},
			[]int64{l.State, l.Level, l.Owner, l.Wait, l.On, l.Value, l.Turn})
	})
}

// A long life: workers come in an order that repeats late, and some of those who run wait for others.
func TestLivesInALongPlay(t *testing.T) {
	p := impl.Plan{Workers: 5, Tasks: 30, Levels: 3, Tokens: 2, Futures: 2}
	for seed := range int64(20) {
		x := impl.NewPool(p)
		state := uint64(seed)*2654435761 + 1
		pick := func(n int64) int64 {
			state = state*6364136223846793005 + 1442695040888963407
			return int64(state>>33) % n
		}
		var given []int64
		for range 300 {
			w, n := pick(p.Workers), pick(3)
			checkLives(t, p, x, w, n)
			line := impl.ReadyLine(x)
			var y impl.Pool
			var a impl.Answer
			switch pick(8) {
			case 0:
				y, a = impl.Spawned(p, x, w, n)
			case 1, 2, 3:
				y, a = impl.Taken(p, x, w)
				if a.Reply == 1 && (len(line) == 0 || a.Out != line[0] || runBy(x, w) != -1) {
					t.Fatalf("%+v: worker %d takes %d of %v", x, w, a.Out, line)
				}
			case 4:
				y, a = impl.Yielded(p, x, w)
			case 5:
				y, a = impl.Ended(p, x, w, n)
				given = append(given, a.Out)
			default:
				var is bool
				y, is = impl.ParkedBy(p, x, runBy(x, w), 1, runBy(x, pick(p.Workers)))
				a.Reply = flag(is)
			}
			checkBeside(t, p, x, y, a)
			x = y
		}
		if slices.Max(given) == 0 {
			t.Fatalf("seed %d: somebody is woken: %v", seed, given)
		}
	}
}

func TestLivesOfNilAndOfEmptyListsAreAlike(t *testing.T) {
	bare := impl.Plan{Workers: 2, Tasks: 4, Levels: 1}
	for _, p := range []impl.Plan{bare, lifePlan(), {}} {
		for _, tasks := range [][]impl.Task{nil, plainTasks(3, 0), {{State: 2, Owner: 1}, {State: 3, Owner: -1, Wait: 1, On: 0}}} {
			none := impl.Pool{Tasks: tasks, Turn: 5}
			empty := impl.Pool{Tasks: tasks, Tokens: []int64{}, Futures: []impl.Future{}, Turn: 5}
			if len(tasks) == 0 {
				empty.Tasks = []impl.Task{}
			}
			for name, live := range map[string]liver{
				"spawned": liveSpawned(p, 1, 0), "no such level": liveSpawned(p, 1, 1), "taken": liveTaken(p, 0), "busy": liveTaken(p, 1),
				"yielded": liveYielded(p, 1), "none": liveYielded(p, 0), "ended": liveEnded(p, 1, 8), "no such value": liveEnded(p, 1, -1), "nobody": liveTaken(p, 2),
			} {
				a, n := live(none)
				b, m := live(empty)
				if !samePool(a, b) || n != m {
					t.Errorf("%s: %+v and %+v with nil, %+v and %+v with empty lists", name, a, n, b, m)
				}
			}
		}
	}
	checkLife(t, impl.Pool{}, liveSpawned(bare, 1, 0), impl.Pool{Tasks: []impl.Task{{State: 1, Owner: -1}}, Turn: 1}, 1, 0)
	checkLife(t, impl.Pool{}, liveTaken(bare, 1), impl.Pool{}, 2, 0)
	checkLife(t, impl.Pool{}, liveYielded(bare, 1), impl.Pool{}, 2, 0)
	checkLife(t, impl.Pool{}, liveEnded(bare, 1, 0), impl.Pool{}, 2, 0)
}

func TestLivesAnswerAtEveryArgument(t *testing.T) {
	defer func() {
		if r := recover(); r != nil {
			t.Fatal("a function of chapter 6 panics:", r)
		}
	}()
	ends := []int64{math.MinInt64, -1, 0, 1, 2, 3, 9, 9999, math.MaxInt64}
	pools := append(strangePools(), lifePool())
	for _, p := range rightPlans() {
		pools = append(pools, rightPools(p)...)
	}
	for _, p := range append(rightPlans(), impl.Plan{}, lifePlan(), impl.Plan{Workers: math.MaxInt64, Tasks: math.MinInt64, Tokens: -1}) {
		for _, x := range pools {
			right := impl.PoolOk(p, x)
			for _, w := range ends {
				for _, n := range ends {
					if right {
						checkLives(t, p, x, w, n)
						continue
					}
					checkLife(t, x, liveSpawned(p, w, n), impl.Pool{}, 8, 0)
					checkLife(t, x, liveTaken(p, w), impl.Pool{}, 8, 0)
					checkLife(t, x, liveYielded(p, w), impl.Pool{}, 8, 0)
					checkLife(t, x, liveEnded(p, w, n), impl.Pool{}, 8, 0)
				}
			}
		}
	}
}
