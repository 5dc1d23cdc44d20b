package tests

import (
	"math"
	"slices"
	"testing"

	"loop.example/g00706/impl"
)

func liveJoined(p impl.Plan, w int64, id int64) liver {
	return func(x impl.Pool) (impl.Pool, impl.Answer) { return impl.Joined(p, x, w, id) }
}

func liveCancelled(p impl.Plan, w int64, id int64) liver {
	return func(x impl.Pool) (impl.Pool, impl.Answer) { return impl.CancelledBy(p, x, w, id) }
}

func liveLeveled(p impl.Plan, w int64, id int64, level int64) liver {
	return func(x impl.Pool) (impl.Pool, impl.Answer) { return impl.Leveled(p, x, w, id, level) }
}

// stateOf is 0 where there is no such task.
func stateOf(x impl.Pool, id int64) int64 {
	if id < 0 || id >= int64(len(x.Tasks)) {
		return 0
	}
	return x.Tasks[id].State
}

// cancelledTask names all fields of one that is cancelled; its Level, Value and Turn are as they were.
func cancelledTask(k impl.Task) impl.Task {
	return impl.Task{State: 5, Level: k.Level, Owner: -1, Wait: 0, On: 0, Value: k.Value, Turn: k.Turn}
}

// checkJoined, checkCancelled and checkLeveled are told what is right by the words of the chapter, for a plan and a pool that are right.
func checkJoined(t *testing.T, p impl.Plan, x impl.Pool, w int64, id int64) {
	t.Helper()
	live, one := liveJoined(p, w, id), runBy(x, w)
	switch state := stateOf(x, id); {
	case w < 0 || w >= p.Workers:
		checkLife(t, x, live, x, 8, 0)
	case one < 0:
		checkLife(t, x, live, x, 2, 0)
	case state == 0 || id == one:
		checkLife(t, x, live, x, 8, 0)
	case state == 5:
		checkLife(t, x, live, x, 5, 0)
	case state == 4:
		checkLife(t, x, live, x, 1, x.Tasks[id].Value)
	case x.Turn == 1000000:
		checkLife(t, x, live, x, 4, 0)
	default:
		want := clonePool(x)
		want.Tasks[one] = parkedTask(x.Tasks[one], 1, id, x.Turn)
		want.Turn++
		checkLife(t, x, live, want, 7, one)
	}
}

func checkCancelled(t *testing.T, p impl.Plan, x impl.Pool, w int64, id int64) {
	t.Helper()
	live, line := liveCancelled(p, w, id), waitersOn(x, 1, id)
	count := int64(len(line))
	switch state := stateOf(x, id); {
	case w < 0 || w >= p.Workers || state == 0:
		checkLife(t, x, live, x, 8, 0)
	case state == 2:
		checkLife(t, x, live, x, 3, 0)
	case state == 4 || state == 5:
		checkLife(t, x, live, x, 5, 0)
	case x.Turn > 1000000-count:
		checkLife(t, x, live, x, 4, 0)
	default:
		want := clonePool(x)
		want.Tasks[id] = cancelledTask(x.Tasks[id])
		for i, one := range line {
			want.Tasks[one] = wokenTask(x.Tasks[one], 0, x.Turn+int64(i))
		}
		want.Turn += count
		checkLife(t, x, live, want, 1, count)
	}
}

func checkLeveled(t *testing.T, p impl.Plan, x impl.Pool, w int64, id int64, level int64) {
	t.Helper()
	live := liveLeveled(p, w, id, level)
	switch state := stateOf(x, id); {
	case w < 0 || w >= p.Workers || state == 0 || level < 0 || level >= p.Levels:
		checkLife(t, x, live, x, 8, 0)
	case state == 4 || state == 5:
		checkLife(t, x, live, x, 5, 0)
	default:
		want := clonePool(x)
		want.Tasks[id].Level = level
		checkLife(t, x, live, want, 1, x.Tasks[id].Level)
	}
}

// checkJoins asks all three, of one worker, one task and one level.
func checkJoins(t *testing.T, p impl.Plan, x impl.Pool, w int64, id int64, level int64) {
	t.Helper()
	checkJoined(t, p, x, w, id)
	checkCancelled(t, p, x, w, id)
	checkLeveled(t, p, x, w, id, level)
}

func joinPlan() impl.Plan {
	return impl.Plan{Workers: 4, Tasks: 16, Levels: 3, Tokens: 3, Futures: 3}
}

// joinPool is the lifePool with one that is done (12), one that is cancelled (13) and one that waits for task 3, which is ready (14); 0 waits for 6.
func joinPool() impl.Pool {
	return changed(lifePool(), func(y *impl.Pool) {
		y.Tasks = append(y.Tasks,
			impl.Task{State: 4, Level: 2, Owner: -1, Value: 1234, Turn: 11},
			impl.Task{State: 5, Level: 1, Owner: -1, Value: 4321, Turn: 12},
			impl.Task{State: 3, Level: 2, Owner: -1, Wait: 1, On: 3, Value: 147, Turn: 13})
	})
}

// All workers that run a task join each of the others.
func TestJoinedByHand(t *testing.T) {
	p, x := joinPlan(), joinPool()
	for w, one := range map[int64]int64{3: 1, 2: 6, 0: 9} {
		k := x.Tasks[one]
		for id := range int64(15) {
			switch {
			case id == one:
				checkLife(t, x, liveJoined(p, w, id), x, 8, 0)
			case id == 12:
				checkLife(t, x, liveJoined(p, w, id), x, 1, 1234)
			case id == 13:
				checkLife(t, x, liveJoined(p, w, id), x, 5, 0)
			default:
				want := changed(x, func(y *impl.Pool) {
					y.Tasks[one] = impl.Task{State: 3, Level: k.Level, Owner: -1, Wait: 1, On: id, Value: k.Value, Turn: 20}
					y.Turn = 21
				})
				checkLife(t, x, liveJoined(p, w, id), want, 7, one)
			}
		}
		for _, id := range []int64{-2, -1, 15, 16, 17} {
			checkLife(t, x, liveJoined(p, w, id), x, 8, 0)
		}
	}
	for id := int64(-2); id <= 17; id++ {
		checkLife(t, x, liveJoined(p, 1, id), x, 2, 0)
		checkLife(t, x, liveJoined(p, -1, id), x, 8, 0)
		checkLife(t, x, liveJoined(p, 4, id), x, 8, 0)
	}
	none := impl.NewPool(p)
	checkLife(t, none, liveJoined(p, 0, 0), none, 2, 0)
}

func TestCancelledByHand(t *testing.T) {
	p, x := joinPlan(), joinPool()
	for w := range int64(4) {
		want := changed(x, func(y *impl.Pool) {
			y.Tasks[3] = impl.Task{State: 5, Level: 1, Owner: -1, Value: 43, Turn: 5}
			y.Tasks[14] = impl.Task{State: 1, Level: 2, Owner: -1, Value: 0, Turn: 20}
			y.Turn = 21
		})
		checkLife(t, x, liveCancelled(p, w, 3), want, 1, 1)
		for _, id := range []int64{0, 2, 4, 5, 7, 8, 10, 11, 14} {
			want := changed(x, func(y *impl.Pool) {
				y.Tasks[id] = impl.Task{State: 5, Level: x.Tasks[id].Level, Owner: -1, Wait: 0, On: 0, Value: x.Tasks[id].Value, Turn: x.Tasks[id].Turn}
			})
			checkLife(t, x, liveCancelled(p, w, id), want, 1, 0)
		}
		for _, id := range []int64{1, 6, 9} {
			checkLife(t, x, liveCancelled(p, w, id), x, 3, 0)
		}
		for _, id := range []int64{12, 13} {
			checkLife(t, x, liveCancelled(p, w, id), x, 5, 0)
		}
		for _, id := range []int64{-2, -1, 15, 16, 17} {
			checkLife(t, x, liveCancelled(p, w, id), x, 8, 0)
		}
		// The three that wait for task 1 are woken with 0 in the order of their Turns, whatever Value they had.
		ready := changed(x, func(y *impl.Pool) { y.Tasks[1].State, y.Tasks[1].Owner = 1, -1 })
		want = changed(ready, func(y *impl.Pool) {
			y.Tasks[1] = impl.Task{State: 5, Level: 2, Owner: -1, Value: 21, Turn: 14}
			y.Tasks[8] = impl.Task{State: 1, Level: 2, Owner: -1, Value: 0, Turn: 20}
			y.Tasks[2] = impl.Task{State: 1, Level: 0, Owner: -1, Value: 0, Turn: 21}
			y.Tasks[11] = impl.Task{State: 1, Level: 1, Owner: -1, Value: 0, Turn: 22}
			y.Turn = 23
		})
		checkLife(t, ready, liveCancelled(p, w, 1), want, 1, 3)
	}
}

func TestLeveledByHand(t *testing.T) {
	p, x := joinPlan(), joinPool()
	for w := range int64(4) {
		for id, was := range []int64{1, 2, 0, 1, 2, 0, 0, 1, 2, 1, 0, 1, -1, -1, 2} {
			for level := range int64(3) {
				if was == -1 {
					checkLife(t, x, liveLeveled(p, w, int64(id), level), x, 5, 0)
					continue
				}
				want := changed(x, func(y *impl.Pool) { y.Tasks[id].Level = level })
				checkLife(t, x, liveLeveled(p, w, int64(id), level), want, 1, was)
			}
			for _, level := range []int64{-1, 3, 4} {
				checkLife(t, x, liveLeveled(p, w, int64(id), level), x, 8, 0)
			}
		}
		for _, id := range []int64{-2, -1, 15, 16, 17} {
			for level := int64(-1); level <= 3; level++ {
				checkLife(t, x, liveLeveled(p, w, id, level), x, 8, 0)
			}
		}
	}
}

// checkNoJoin asks for the zero Pool and RpBad: of calls that would be done in joinPool, and of ones that would be refused.
func checkNoJoin(t *testing.T, p impl.Plan, x impl.Pool) {
	t.Helper()
	low, high := int64(math.MinInt64), int64(math.MaxInt64)
	for _, live := range []liver{
		liveJoined(p, 0, 0), liveJoined(p, 0, 12), liveJoined(p, 0, 13), liveJoined(p, 0, 9), liveJoined(p, 1, 0), liveJoined(p, -1, 0), liveJoined(p, high, low),
		liveCancelled(p, 1, 3), liveCancelled(p, 0, 0), liveCancelled(p, 0, 1), liveCancelled(p, 0, 12), liveCancelled(p, 0, 15), liveCancelled(p, 4, 3), liveCancelled(p, low, high),
		liveLeveled(p, 0, 0, 0), liveLeveled(p, 1, 14, 2), liveLeveled(p, 0, 12, 0), liveLeveled(p, 0, 0, 3), liveLeveled(p, 0, -1, 0), liveLeveled(p, 4, 0, 0), liveLeveled(p, low, high, low),
	} {
		checkLife(t, x, live, impl.Pool{}, 8, 0)
	}
}

func TestNobodyJoinsInAPlanThatIsNotRight(t *testing.T) {
	pools := []impl.Pool{joinPool(), {}, impl.NewPool(joinPlan()), changed(joinPool(), func(y *impl.Pool) { y.Stopped, y.Turn = true, 1000000 })}
	for _, base := range append(rightPlans(), joinPlan()) {
		for _, f := range planFields() {
			for _, n := range append(oddNumbers(), f.least-1, f.most+1) {
				p := base
				f.put(&p, n)
				for _, x := range pools {
					checkNoJoin(t, p, x)
				}
			}
		}
	}
	for _, x := range pools {
		checkNoJoin(t, impl.Plan{}, x)
	}
}

func TestNobodyJoinsInAPoolThatIsNotRight(t *testing.T) {
	p := joinPlan()
	if !impl.PoolOk(p, joinPool()) {
		t.Fatal("the pool is right where nothing is changed")
	}
	// What is wrong is elsewhere: no call names that task, or that kind.
	for _, change := range []func(y *impl.Pool){
		func(y *impl.Pool) { y.Tasks[4].State = 6 },
		func(y *impl.Pool) { y.Tasks[4] = impl.Task{} },
		func(y *impl.Pool) { y.Tasks[5].Level = 3 },
		func(y *impl.Pool) { y.Tasks[5].Owner = 1 },
		func(y *impl.Pool) { y.Tasks[6].Owner = 3 },
		func(y *impl.Pool) { y.Tasks[6].Owner = 4 },
		func(y *impl.Pool) { y.Tasks[8].On = 8 },
		func(y *impl.Pool) { y.Tasks[8].On = 15 },
		func(y *impl.Pool) { y.Tasks[10].On = 3 },
		func(y *impl.Pool) { y.Tasks[5].Value = 10000 },
		func(y *impl.Pool) { y.Tasks[5].Value = -1 },
		func(y *impl.Pool) { y.Tasks[5].Turn = 20 },
		func(y *impl.Pool) { y.Tasks[5].Turn = -1 },
		func(y *impl.Pool) { y.Tasks = append(y.Tasks, plainTasks(2, 0)...) },
		func(y *impl.Pool) { y.Tokens[2] = 101 },
		func(y *impl.Pool) { y.Tokens = y.Tokens[:2] },
		func(y *impl.Pool) { y.Tokens = append(y.Tokens, 0) },
		func(y *impl.Pool) { y.Futures = y.Futures[:2] },
		func(y *impl.Pool) { y.Futures = append(y.Futures, impl.Future{}) },
		func(y *impl.Pool) { y.Futures[2].Value = 1 },
		func(y *impl.Pool) { y.Turn = 19 },
		func(y *impl.Pool) { y.Turn = -1 },
		func(y *impl.Pool) { y.Turn = 1000001 },
		func(y *impl.Pool) { y.Turn = math.MaxInt64 },
		func(y *impl.Pool) { y.Turn = math.MinInt64 },
	} {
		x := changed(joinPool(), change)
		if impl.PoolOk(p, x) {
			t.Errorf("that is not right: %+v", x)
		}
		checkNoJoin(t, p, x)
		x.Stopped = true
		checkNoJoin(t, p, x)
	}
	for _, x := range append(strangePools(), impl.Pool{}) {
		checkNoJoin(t, p, x)
	}
	small := joinPlan()
	small.Tasks = 14
	checkNoJoin(t, small, joinPool())
}

// joinPools are right pools of the joinPlan in which each call meets another answer: at the end of the Turns, stopped, where nobody runs one, where there is no task.
func joinPools() []impl.Pool {
	x := joinPool()
	full := func(y *impl.Pool) { y.Turn = 1000000 }
	stop := func(y *impl.Pool) { y.Stopped = true }
	idle := func(y *impl.Pool) { y.Tasks = plainTasks(16, 0) }
	none := func(y *impl.Pool) { y.Tasks = nil }
	var pools []impl.Pool
	for _, y := range []impl.Pool{x, changed(x, idle), changed(x, none)} {
		pools = append(pools, y, changed(y, full), changed(y, stop), changed(changed(y, full), stop))
	}
	return pools
}

func TestWhoIsNoWorkerJoinsNobody(t *testing.T) {
	p := joinPlan()
	for _, x := range joinPools() {
		if !impl.PoolOk(p, x) {
			t.Fatalf("%+v is right", x)
		}
		for _, w := range append(farNumbers(), -1, 4, 5, 8) {
			for _, id := range []int64{math.MinInt64, -1, 0, 1, 3, 12, 13, 14, 15, 16, math.MaxInt64} {
				checkLife(t, x, liveJoined(p, w, id), x, 8, 0)
				checkLife(t, x, liveCancelled(p, w, id), x, 8, 0)
				for _, level := range []int64{-1, 0, 2, 3} {
					checkLife(t, x, liveLeveled(p, w, id, level), x, 8, 0)
				}
			}
		}
		for w := range int64(4) {
			for id := int64(-1); id <= 16; id++ {
				for level := int64(-1); level <= 3; level++ {
					checkJoins(t, p, x, w, id, level)
				}
			}
		}
	}
}

func TestAllWorkersOfThePlanJoin(t *testing.T) {
	for workers := int64(1); workers <= 8; workers++ {
		p := impl.Plan{Workers: workers, Tasks: 30, Levels: 2, Tokens: 1}
		x := impl.NewPool(p)
		x.Turn = 99
		for w := range workers {
			x.Tasks = append(x.Tasks, impl.Task{State: 2, Owner: w, Turn: w})
		}
		x.Tasks = append(x.Tasks, impl.NewTask(0, 50))
		for w := int64(-2); w <= 10; w++ {
			got := [3]int64{8, 8, 8}
			if w >= 0 && w < workers {
				got = [3]int64{7, 1, 1}
			}
			_, joined := impl.Joined(p, x, w, workers)
			_, cancelled := impl.CancelledBy(p, x, w, workers)
			_, leveled := impl.Leveled(p, x, w, workers, 1)
			if got != [3]int64{joined.Reply, cancelled.Reply, leveled.Reply} {
				t.Errorf("worker %d of %d: %d %d %d", w, workers, joined.Reply, cancelled.Reply, leveled.Reply)
			}
			for id := int64(-1); id <= workers+1; id++ {
				checkJoins(t, p, x, w, id, 1)
			}
		}
	}
}

// Joined where more than one refusal applies: the one that the chapter names first is told, and RpFull where no other one is.
func TestJoinedToldByTheFirstOfItsRefusals(t *testing.T) {
	p := joinPlan()
	x := poolOf(p, []impl.Task{
		{State: 2, Owner: 2, Turn: 7}, {State: 1, Owner: -1}, {State: 2, Owner: 3}, {State: 3, Owner: -1, Wait: 1, On: 5}, {State: 4, Owner: -1, Value: 55}, {State: 5, Owner: -1, Value: 66},
	})
	for _, turn := range []int64{999998, 999999, 1000000} {
		x.Turn = turn
		for _, c := range [][4]int64{
			{2, -1, 8, 0}, {2, 0, 8, 0}, {2, 4, 1, 55}, {2, 5, 5, 0}, {2, 6, 8, 0}, {3, 2, 8, 0},
			{1, -1, 2, 0}, {1, 0, 2, 0}, {1, 1, 2, 0}, {1, 3, 2, 0}, {1, 4, 2, 0}, {1, 5, 2, 0}, {1, 6, 2, 0}, {0, 5, 2, 0}, {0, 6, 2, 0},
			{-1, -1, 8, 0}, {-1, 1, 8, 0}, {-1, 4, 8, 0}, {4, 5, 8, 0}, {4, 1, 8, 0},
		} {
			checkLife(t, x, liveJoined(p, c[0], c[1]), x, c[2], c[3])
		}
		for _, id := range []int64{1, 2, 3} {
			if turn == 1000000 {
				checkLife(t, x, liveJoined(p, 2, id), x, 4, 0)
				continue
			}
			want := changed(x, func(y *impl.Pool) {
				y.Tasks[0] = impl.Task{State: 3, Owner: -1, Wait: 1, On: id, Turn: turn}
				y.Turn = turn + 1
			})
			checkLife(t, x, liveJoined(p, 2, id), want, 7, 0)
		}
	}
}

// The one that joins and the one that is joined, of each State, at all places of lists of several lengths.
func TestJoinedOfEachState(t *testing.T) {
	p := joinPlan()
	for _, length := range []int64{2, 3, 7, 16} {
		for one := range length {
			for id := range length {
				if one == id {
					continue
				}
				for state := int64(1); state <= 5; state++ {
					x := poolOf(p, plainTasks(length, 0))
					x.Tasks[one] = impl.Task{State: 2, Level: 2, Owner: 0, Value: 12, Turn: 999998}
					x.Tasks[id] = eachState(state)
					for w := range int64(3) {
						checkJoined(t, p, x, w, id)
						checkJoined(t, p, x, w, one)
					}
				}
			}
		}
	}
}

// The Value is told as it stands, and none of its Level, its Turn or its number.
func TestJoinedTellsTheValueOfWhatIsDone(t *testing.T) {
	p := joinPlan()
	for _, value := range []int64{0, 1, 2, 7, 255, 256, 5000, 9998, 9999} {
		for _, turn := range []int64{3, 999999, 1000000} {
			x := poolOf(p, []impl.Task{{State: 4, Level: 1, Owner: -1, Value: value, Turn: 2}, {State: 2, Level: 2, Owner: 3, Value: 77, Turn: 1}})
			x.Turn = turn
			for _, stopped := range []bool{false, true} {
				x.Stopped = stopped
				checkLife(t, x, liveJoined(p, 3, 0), x, 1, value)
				checkLife(t, x, liveJoined(p, 0, 0), x, 2, 0)
			}
		}
	}
}

// mayWait is every Wait and On of a task in a right pool of the plan with that many tasks.
func mayWait(p impl.Plan, count int64, id int64) [][2]int64 {
	var all [][2]int64
	for on := range count {
		if on != id {
			all = append(all, [2]int64{1, on})
		}
	}
	for on := range p.Tokens {
		all = append(all, [2]int64{2, on})
	}
	for on := range p.Futures {
		all = append(all, [2]int64{3, on})
	}
	return all
}

// Whatever the cancelled one waits for, it waits for nothing then, also where the one that it waits for waits for it.
func TestCancelledWhateverItWaitsFor(t *testing.T) {
	p := joinPlan()
	for _, count := range []int64{2, 5, 16} {
		for id := range count {
			for _, wait := range mayWait(p, count, id) {
				x := poolOf(p, plainTasks(count, 100))
				x.Tasks[id] = impl.Task{State: 3, Level: 1, Owner: -1, Wait: wait[0], On: wait[1], Value: 33, Turn: 44}
				want := changed(x, func(y *impl.Pool) {
					y.Tasks[id] = impl.Task{State: 5, Level: 1, Owner: -1, Value: 33, Turn: 44}
				})
				checkLife(t, x, liveCancelled(p, 1, id), want, 1, 0)
				other := (id + 1) % count
				x.Tasks[other] = impl.Task{State: 3, Level: 2, Owner: -1, Wait: 1, On: id, Value: 9, Turn: 8}
				want = changed(want, func(y *impl.Pool) {
					y.Tasks[other] = impl.Task{State: 1, Level: 2, Owner: -1, Value: 0, Turn: 999999}
					y.Turn = 1000000
				})
				checkLife(t, x, liveCancelled(p, 1, id), want, 1, 1)
			}
		}
	}
}

// Four wait for the one that is cancelled, in every order of their turns; others wait for a token, for a Future and for another task.
func TestCancelledWakesInEveryOrder(t *testing.T) {
	p := joinPlan()
	for _, id := range []int64{0, 1, 2, 11} {
		for _, order := range permutations(4) {
			x := poolOf(p, plainTasks(12, 0))
			x.Turn = 500
			x.Tasks[id] = impl.Task{State: 1, Level: 1, Owner: -1, Value: 5, Turn: 499}
			x.Tasks[9] = impl.Task{State: 3, Level: 2, Owner: -1, Wait: 2, On: min(id, 2), Value: 1, Turn: 90}
			x.Tasks[10] = impl.Task{State: 3, Level: 2, Owner: -1, Wait: 3, On: min(id, 2), Value: 2, Turn: 91}
			x.Tasks[8] = impl.Task{State: 3, Level: 2, Owner: -1, Wait: 1, On: 9, Value: 3, Turn: 92}
			for place, i := range order {
				x.Tasks[i+3] = impl.Task{State: 3, Level: i % 3, Owner: -1, Wait: 1, On: id, Value: 70 + i, Turn: 100 + 10*int64(place)}
			}
			want := changed(x, func(y *impl.Pool) {
				y.Tasks[id] = impl.Task{State: 5, Level: 1, Owner: -1, Value: 5, Turn: 499}
				for place, i := range order {
					y.Tasks[i+3] = impl.Task{State: 1, Level: i % 3, Owner: -1, Value: 0, Turn: 500 + int64(place)}
				}
				y.Turn = 504
			})
			checkLife(t, x, liveCancelled(p, 3, id), want, 1, 4)
			checkLife(t, want, liveCancelled(p, 3, id), want, 5, 0)
		}
	}
}

func TestCancelledWakesAsManyAsWait(t *testing.T) {
	p := impl.Plan{Workers: 2, Tasks: 30, Levels: 2, Tokens: 1, Futures: 1}
	for count := int64(0); count < 30; count++ {
		for _, id := range []int64{0, count / 2, count} {
			x := poolOf(p, parked(plainTasks(count+1, 0), 1, id))
			x.Tasks[id] = impl.Task{State: 3, Level: 1, Owner: -1, Wait: 3, On: 0, Value: 6, Turn: 7}
			x.Turn = 1000
			want := changed(x, func(y *impl.Pool) {
				for i, turn := int64(0), int64(1000); i <= count; i++ {
					if i != id {
						y.Tasks[i] = impl.Task{State: 1, Owner: -1, Turn: turn}
						turn++
					}
				}
				y.Tasks[id] = impl.Task{State: 5, Level: 1, Owner: -1, Value: 6, Turn: 7}
				y.Turn = 1000 + count
			})
			checkLife(t, x, liveCancelled(p, 1, id), want, 1, count)
		}
	}
}

// As many wait as Turns are left, or fewer: done; one more: refused, but behind all other refusals.
func TestCancelledAtTheEndOfTheTurns(t *testing.T) {
	p := joinPlan()
	for left := int64(0); left <= 5; left++ {
		for count := int64(0); count <= 6; count++ {
			x := poolOf(p, append(parked(plainTasks(count, 3), 1, count), impl.NewTask(2, 30), impl.Task{State: 2, Owner: 0}, impl.Task{State: 4, Owner: -1}, impl.Task{State: 5, Owner: -1}))
			x.Turn = 1000000 - left
			if count > left {
				checkLife(t, x, liveCancelled(p, 2, count), x, 4, 0)
			} else {
				want := changed(x, func(y *impl.Pool) {
					y.Tasks[count].State = 5
					for i := range count {
						y.Tasks[i] = impl.Task{State: 1, Owner: -1, Turn: x.Turn + i}
					}
					y.Turn += count
				})
				checkLife(t, x, liveCancelled(p, 2, count), want, 1, count)
			}
			// For these as many wait, and they may not be cancelled.
			for i, reply := range []int64{3, 5, 5} {
				id := count + 1 + int64(i)
				y := changed(x, func(y *impl.Pool) { copy(y.Tasks, parked(y.Tasks[:count], 1, id)) })
				checkLife(t, y, liveCancelled(p, 2, id), y, reply, 0)
				checkLife(t, y, liveCancelled(p, 4, id), y, 8, 0)
			}
			for _, id := range []int64{-1, count + 4, 16} {
				checkLife(t, x, liveCancelled(p, 2, id), x, 8, 0)
			}
		}
	}
}

// Leveled takes no Turn: at the end of the Turns it does what it does elsewhere.
func TestLeveledAtTheEndOfTheTurns(t *testing.T) {
	p := joinPlan()
	for _, turn := range []int64{999998, 999999, 1000000} {
		for state := int64(1); state <= 5; state++ {
			x := poolOf(p, plainTasks(4, 0))
			x.Turn, x.Tasks[2] = turn, eachState(state)
			for id := int64(-1); id <= 4; id++ {
				for level := int64(-1); level <= 3; level++ {
					checkLeveled(t, p, x, 3, id, level)
				}
			}
		}
	}
}

// RpBad, of the task or of the level, is ahead of RpGone.
func TestLeveledToldByTheFirstOfItsRefusals(t *testing.T) {
	p := joinPlan()
	x := poolOf(p, []impl.Task{{State: 4, Level: 1, Owner: -1}, {State: 5, Level: 2, Owner: -1}, {State: 1, Level: 1, Owner: -1}})
	for _, c := range [][3]int64{
		{0, 0, 5}, {0, 1, 5}, {0, 2, 5}, {0, -1, 8}, {0, 3, 8}, {1, 0, 5}, {1, 2, 5}, {1, -1, 8}, {1, 3, 8},
		{2, -1, 8}, {2, 3, 8}, {-1, 0, 8}, {-1, -1, 8}, {-1, 3, 8}, {3, 0, 8}, {3, 2, 8}, {3, -1, 8}, {3, 3, 8},
	} {
		for w := range int64(4) {
			checkLife(t, x, liveLeveled(p, w, c[0], c[1]), x, c[2], 0)
		}
	}
}

func TestLevelsAreThoseOfThePlanWhereOneIsLeveled(t *testing.T) {
	for levels := int64(1); levels <= 4; levels++ {
		p := impl.Plan{Workers: 1, Tasks: 2, Levels: levels}
		for was := range levels {
			x := poolOf(p, []impl.Task{impl.NewTask(was, 3)})
			for level := int64(-2); level <= 6; level++ {
				if level < 0 || level >= levels {
					checkLife(t, x, liveLeveled(p, 0, 0, level), x, 8, 0)
					continue
				}
				checkLife(t, x, liveLeveled(p, 0, 0, level), changed(x, func(y *impl.Pool) { y.Tasks[0].Level = level }), 1, was)
			}
		}
	}
}

// Six are ready, of two levels; who has another level stands elsewhere in the line, by its turn among its own.
func TestWhoeverIsLeveledStandsElsewhereInLine(t *testing.T) {
	p := joinPlan()
	x := poolOf(p, []impl.Task{
		impl.NewTask(1, 10), impl.NewTask(0, 5), impl.NewTask(1, 30), impl.NewTask(0, 25), impl.NewTask(1, 20), impl.NewTask(0, 15),
	})
	for _, c := range []struct {
		id    int64
		level int64
		line  []int64
	}{
		{0, 1, []int64{0, 4, 2, 1, 5, 3}}, {0, 0, []int64{4, 2, 1, 0, 5, 3}}, {0, 2, []int64{0, 4, 2, 1, 5, 3}},
		{4, 0, []int64{0, 2, 1, 5, 4, 3}}, {4, 2, []int64{4, 0, 2, 1, 5, 3}}, {1, 1, []int64{1, 0, 4, 2, 5, 3}},
		{3, 1, []int64{0, 4, 3, 2, 1, 5}}, {3, 2, []int64{3, 0, 4, 2, 1, 5}}, {2, 0, []int64{0, 4, 1, 5, 3, 2}},
	} {
		y, a := impl.Leveled(p, x, 0, c.id, c.level)
		if a != (impl.Answer{Reply: 1, Out: x.Tasks[c.id].Level}) || !slices.Equal(impl.ReadyLine(y), c.line) {
			t.Errorf("task %d at level %d: %+v, and the line is %v, not %v", c.id, c.level, a, impl.ReadyLine(y), c.line)
		}
	}
	// Among those who wait a level moves nobody.
	waits := poolOf(p, append(parked(plainTasks(5, 0), 1, 5), impl.NewTask(0, 9)))
	line := impl.WaitersOn(waits, 1, 5)
	for id := range int64(5) {
		y, _ := impl.Leveled(p, waits, 0, id, 2)
		if !slices.Equal(impl.WaitersOn(y, 1, 5), line) || y.Tasks[id].Level != 2 {
			t.Errorf("task %d: %v, not %v: %+v", id, impl.WaitersOn(y, 1, 5), line, y)
		}
	}
}

// mustLive is for calls whose Answer is known.
func mustLive(t *testing.T, x impl.Pool, live liver, reply int64, out int64) impl.Pool {
	t.Helper()
	y, a := live(x)
	if a != (impl.Answer{Reply: reply, Out: out}) {
		t.Fatalf("%+v: %+v, not %d with %d", x, a, reply, out)
	}
	return y
}

// allRunning is a new pool in which so many were spawned and taken: worker 0 runs task 0, worker 1 runs task 1 and so on.
func allRunning(t *testing.T, p impl.Plan, count int64) impl.Pool {
	t.Helper()
	x := impl.NewPool(p)
	for id := range count {
		x = mustLive(t, x, liveSpawned(p, 0, 0), 1, id)
		x = mustLive(t, x, liveTaken(p, id), 1, id)
	}
	return x
}

// So many join one task in an order of their own; then it ends, or is cancelled: they come in that order, each with its value.
func TestWhoeverJoinsGetsTheValueOfWhatEnds(t *testing.T) {
	p := impl.Plan{Workers: 6, Tasks: 6, Levels: 1}
	for count := int64(0); count <= 4; count++ {
		for _, order := range permutations(count) {
			x := allRunning(t, p, count+1)
			for _, one := range order {
				x = mustLive(t, x, liveJoined(p, one, count), 7, one)
				if k := x.Tasks[one]; k != (impl.Task{State: 3, Owner: -1, Wait: 1, On: count, Turn: x.Turn - 1}) {
					t.Fatalf("task %d waits: %+v", one, k)
				}
			}
			if !slices.Equal(impl.WaitersOn(x, 1, count), order) {
				t.Fatalf("%v wait, not %v", impl.WaitersOn(x, 1, count), order)
			}
			turn := x.Turn
			for _, value := range []int64{0, 1, 777, 9999} {
				y := mustLive(t, x, liveEnded(p, count, value), 1, count)
				checkAllGot(t, y, order, value, turn)
				// And whoever joins it from now on is told the same at once.
				for w, one := range order {
					y = mustLive(t, y, liveTaken(p, int64(w)), 1, one)
					y = mustLive(t, y, liveJoined(p, int64(w), count), 1, value)
				}
			}
			y := mustLive(t, x, liveYielded(p, count), 1, count)
			y = mustLive(t, y, liveCancelled(p, 0, count), 1, count)
			checkAllGot(t, y, order, 0, turn+1)
			for w, one := range order {
				y = mustLive(t, y, liveTaken(p, int64(w)), 1, one)
				y = mustLive(t, y, liveJoined(p, int64(w), count), 5, 0)
			}
		}
	}
}

func checkAllGot(t *testing.T, y impl.Pool, order []int64, value int64, turn int64) {
	t.Helper()
	for i, one := range order {
		if k := y.Tasks[one]; k != (impl.Task{State: 1, Owner: -1, Value: value, Turn: turn + int64(i)}) {
			t.Fatalf("task %d of %v is to get %d of turn %d: %+v", one, order, value, turn+int64(i), k)
		}
	}
	if !slices.Equal(impl.ReadyLine(y), order) {
		t.Fatalf("%v are ready, not %v", impl.ReadyLine(y), order)
	}
}

func TestJoinsWithNumbersAtTheEnds(t *testing.T) {
	p := joinPlan()
	for _, x := range []impl.Pool{joinPool(), mixedPool(p), edgePool(p), impl.NewPool(p)} {
		for _, far := range append(farNumbers(), -1, 1<<8+2, 1<<16+2, 1<<32+2, 1<<33+2, math.MinInt64+2, math.MinInt64+12) {
			for w := int64(-1); w <= 4; w++ {
				for _, id := range []int64{-1, 0, 3, 12, 14} {
					checkJoins(t, p, x, w, id, far)
					checkJoins(t, p, x, far, id, w)
				}
				checkJoins(t, p, x, w, far, 1)
				checkJoins(t, p, x, w, far, far)
			}
			checkJoins(t, p, x, far, far, far)
		}
	}
}

func TestJoinsInEveryRightPool(t *testing.T) {
	for _, p := range append(rightPlans(), middlePlan(), joinPlan()) {
		for _, x := range append(rightPools(p), impl.NewPool(p)) {
			for w := int64(-1); w <= p.Workers; w++ {
				for id := int64(-1); id <= int64(len(x.Tasks))+1; id++ {
					checkJoins(t, p, x, w, id, (id+w)%(p.Levels+1))
				}
				checkJoins(t, p, x, w, p.Tasks, p.Levels-1)
			}
		}
	}
}

// checkNobodyIsForgotten asks of whoever waited for a task: it waits on, or was cancelled, or the task has come to its end and its value was given.
func checkNobodyIsForgotten(t *testing.T, x impl.Pool, y impl.Pool) {
	t.Helper()
	for id, k := range x.Tasks {
		l := y.Tasks[id]
		if k.State != 3 || k.Wait != 1 {
			continue
		}
		on := y.Tasks[k.On]
		ended := x.Tasks[k.On].State != on.State && (on.State == 4 || on.State == 5)
		value := int64(0)
		if on.State == 4 {
			value = on.Value
		}
		switch {
		case l.State == 3 && !ended || l.State == 5:
		case l.State == 1 && ended && l.Value == value && l.Turn >= x.Turn && l.Turn < y.Turn:
		default:
			t.Fatalf("task %d waits for %d: %+v, then %+v", id, k.On, x, y)
		}
	}
}

// joinCalls are all calls of chapters 6 and 7 that a worker has in a pool of three tasks and two levels.
func joinCalls(p impl.Plan, w int64) []liver {
	calls := []liver{liveSpawned(p, w, w), liveTaken(p, w), liveYielded(p, w), liveEnded(p, w, w+7)}
	for id := range int64(3) {
		calls = append(calls, liveJoined(p, w, id), liveCancelled(p, w, id), liveLeveled(p, w, id, 1-w))
	}
	return calls
}

// In all pools that a few calls make of the new one, each call is what the chapter tells.
func TestJoinsFromTheBeginning(t *testing.T) {
	p := impl.Plan{Workers: 2, Tasks: 3, Levels: 2}
	pools := []impl.Pool{impl.NewPool(p)}
	for range 7 {
		var next []impl.Pool
		for _, x := range pools {
			for w := range p.Workers {
				for _, live := range joinCalls(p, w) {
					y, a := live(x)
					checkBeside(t, p, x, y, a)
					checkNobodyIsForgotten(t, x, y)
					if a.Reply == 1 || a.Reply == 7 {
						next = append(next, y)
					}
				}
				for id := int64(-1); id <= 3; id++ {
					checkJoins(t, p, x, w, id, w)
				}
			}
		}
		pools = next
		slices.SortFunc(pools, comparePools)
		pools = slices.CompactFunc(pools, samePool)
	}
	if len(pools) < 900 {
		t.Fatalf("seven calls make more than these %d pools", len(pools))
	}
}

// A long life in which most of those who run join another one.
func TestJoinsInALongPlay(t *testing.T) {
	p := impl.Plan{Workers: 5, Tasks: 30, Levels: 3, Tokens: 2, Futures: 2}
	seen := map[impl.Answer]bool{}
	for seed := range int64(20) {
		x := impl.NewPool(p)
		state := uint64(seed)*2654435761 + 7
		pick := func(n int64) int64 {
			state = state*6364136223846793005 + 1442695040888963407
			return int64(state>>33) % n
		}
		for range 300 {
			w, n, id := pick(p.Workers), pick(3), pick(int64(len(x.Tasks))+2)
			checkJoins(t, p, x, w, id, n)
			var y impl.Pool
			var a impl.Answer
			switch pick(10) {
			case 0, 1:
				y, a = impl.Spawned(p, x, w, n)
			case 2, 3, 4:
				y, a = impl.Taken(p, x, w)
			case 5:
				y, a = impl.Ended(p, x, w, n+5)
			case 6:
				y, a = impl.CancelledBy(p, x, w, id)
				seen[a] = true
			case 7:
				y, a = impl.Leveled(p, x, w, id, n)
			default:
				y, a = impl.Joined(p, x, w, id)
			}
			checkBeside(t, p, x, y, a)
			checkNobodyIsForgotten(t, x, y)
			x = y
		}
	}
	for _, a := range []impl.Answer{{Reply: 1, Out: 1}, {Reply: 1, Out: 2}, {Reply: 3}, {Reply: 5}, {Reply: 8}} {
		if !seen[a] {
			t.Errorf("%+v is told in none of these lives: %v", a, seen)
		}
	}
}

func TestJoinsOfNilAndOfEmptyListsAreAlike(t *testing.T) {
	bare := impl.Plan{Workers: 2, Tasks: 4, Levels: 2}
	for _, p := range []impl.Plan{bare, joinPlan(), {}} {
		for _, tasks := range [][]impl.Task{nil, plainTasks(3, 0), {{State: 2, Owner: 1}, {State: 3, Owner: -1, Wait: 1, On: 2}, {State: 1, Owner: -1}}} {
			none := impl.Pool{Tasks: tasks, Turn: 5}
			empty := impl.Pool{Tasks: tasks, Tokens: []int64{}, Futures: []impl.Future{}, Turn: 5}
			if len(tasks) == 0 {
				empty.Tasks = []impl.Task{}
			}
			for name, live := range map[string]liver{
				"joined": liveJoined(p, 1, 2), "itself": liveJoined(p, 1, 0), "none": liveJoined(p, 0, 2), "nobody": liveJoined(p, 2, 2),
				"cancelled": liveCancelled(p, 0, 2), "busy": liveCancelled(p, 0, 0), "no such task": liveCancelled(p, 0, 3),
				"leveled": liveLeveled(p, 0, 1, 1), "no such level": liveLeveled(p, 0, 1, 2), "no such one": liveLeveled(p, 0, -1, 1),
			} {
				a, n := live(none)
				b, m := live(empty)
				if !samePool(a, b) || n != m {
					t.Errorf("%s: %+v and %+v with nil, %+v and %+v with empty lists", name, a, n, b, m)
				}
			}
		}
	}
	checkLife(t, impl.Pool{}, liveJoined(bare, 1, 0), impl.Pool{}, 2, 0)
	checkLife(t, impl.Pool{}, liveCancelled(bare, 1, 0), impl.Pool{}, 8, 0)
	checkLife(t, impl.Pool{}, liveLeveled(bare, 1, 0, 0), impl.Pool{}, 8, 0)
}

func TestJoinsAnswerAtEveryArgument(t *testing.T) {
	defer func() {
		if r := recover(); r != nil {
			t.Fatal("a function of chapter 7 panics:", r)
		}
	}()
	ends := []int64{math.MinInt64, -1, 0, 1, 2, 9, 9999, math.MaxInt64}
	pools := append(strangePools(), joinPool())
	for _, p := range rightPlans() {
		pools = append(pools, rightPools(p)...)
	}
	for _, p := range append(rightPlans(), impl.Plan{}, joinPlan(), impl.Plan{Workers: math.MaxInt64, Tasks: math.MinInt64, Tokens: -1}) {
		for _, x := range pools {
			right := impl.PoolOk(p, x)
			for _, w := range ends {
				for i, id := range ends {
					level := ends[(i+3)%len(ends)]
					if right {
						checkJoins(t, p, x, w, id, level)
						continue
					}
					checkLife(t, x, liveJoined(p, w, id), impl.Pool{}, 8, 0)
					checkLife(t, x, liveCancelled(p, w, id), impl.Pool{}, 8, 0)
					checkLife(t, x, liveLeveled(p, w, id, level), impl.Pool{}, 8, 0)
				}
			}
		}
	}
}
