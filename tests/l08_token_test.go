package tests

import (
	"math"
	"slices"
	"testing"

	"loop.example/g00706/impl"
)

func liveUpped(p impl.Plan, w int64, kind int64) liver {
	return func(x impl.Pool) (impl.Pool, impl.Answer) { return impl.Upped(p, x, w, kind) }
}

func liveDowned(p impl.Plan, w int64, kind int64) liver {
	return func(x impl.Pool) (impl.Pool, impl.Answer) { return impl.Downed(p, x, w, kind) }
}

// checkUpped and checkDowned are told what is right by the words of the chapter, for a plan and a pool that are right.
func checkUpped(t *testing.T, p impl.Plan, x impl.Pool, w int64, kind int64) {
	t.Helper()
	live, line := liveUpped(p, w, kind), waitersOn(x, 2, kind)
	switch {
	case w < 0 || w >= p.Workers || kind < 0 || kind >= p.Tokens:
		checkLife(t, x, live, x, 8, 0)
	case len(line) == 0 && x.Tokens[kind] == 100 || len(line) > 0 && x.Turn == 1000000:
		checkLife(t, x, live, x, 4, 0)
	case len(line) == 0:
		checkLife(t, x, live, withFree(x, kind, x.Tokens[kind]+1), 1, 0)
	default:
		checkLife(t, x, live, withWoken(x, line[0]), 1, line[0]+1)
	}
}

func checkDowned(t *testing.T, p impl.Plan, x impl.Pool, w int64, kind int64) {
	t.Helper()
	live, one := liveDowned(p, w, kind), runBy(x, w)
	switch {
	case w < 0 || w >= p.Workers:
		checkLife(t, x, live, x, 8, 0)
	case one < 0:
		checkLife(t, x, live, x, 2, 0)
	case kind < 0 || kind >= p.Tokens:
		checkLife(t, x, live, x, 8, 0)
	case x.Tokens[kind] > 0:
		checkLife(t, x, live, withFree(x, kind, x.Tokens[kind]-1), 1, x.Tokens[kind]-1)
	case x.Turn == 1000000:
		checkLife(t, x, live, x, 4, 0)
	default:
		checkLife(t, x, live, withParked(x, one, kind), 7, one)
	}
}

// checkTokens asks both, of one worker and one kind.
func checkTokens(t *testing.T, p impl.Plan, x impl.Pool, w int64, kind int64) {
	t.Helper()
	checkUpped(t, p, x, w, kind)
	checkDowned(t, p, x, w, kind)
}

// withFree, withWoken and withParked are the pool but for the one thing that a call does.
func withFree(x impl.Pool, kind int64, free int64) impl.Pool {
	return changed(x, func(y *impl.Pool) { y.Tokens[kind] = free })
}

func withWoken(x impl.Pool, id int64) impl.Pool {
	return changed(x, func(y *impl.Pool) {
		y.Tasks[id] = wokenTask(x.Tasks[id], 0, x.Turn)
		y.Turn++
	})
}

func withParked(x impl.Pool, id int64, kind int64) impl.Pool {
	return changed(x, func(y *impl.Pool) {
		y.Tasks[id] = parkedTask(x.Tasks[id], 2, kind, x.Turn)
		y.Turn++
	})
}

// withTurn is the pool with that Turn and all else as it is.
func withTurn(x impl.Pool, turn int64) impl.Pool {
	return changed(x, func(y *impl.Pool) { y.Turn = turn })
}

func withStop(x impl.Pool) impl.Pool {
	return changed(x, func(y *impl.Pool) { y.Stopped = true })
}

// In the wakePool 4, 6 and 2 wait for kind 1, in this order, and 9 waits for kind 0; for kind 2 nobody does.
func TestUppedByHand(t *testing.T) {
	p, x := wakePlan(), wakePool()
	for w := range int64(3) {
		one := changed(x, func(y *impl.Pool) {
			y.Tasks[4] = impl.Task{State: 1, Level: 0, Owner: -1, Wait: 0, On: 0, Value: 0, Turn: 20}
			y.Turn = 21
		})
		checkLife(t, x, liveUpped(p, w, 1), one, 1, 5)
		two := changed(one, func(y *impl.Pool) {
			y.Tasks[6] = impl.Task{State: 1, Level: 3, Owner: -1, Wait: 0, On: 0, Value: 0, Turn: 21}
			y.Turn = 22
		})
		checkLife(t, one, liveUpped(p, w, 1), two, 1, 7)
		three := changed(two, func(y *impl.Pool) {
			y.Tasks[2] = impl.Task{State: 1, Level: 2, Owner: -1, Wait: 0, On: 0, Value: 0, Turn: 22}
			y.Turn = 23
		})
		checkLife(t, two, liveUpped(p, w, 1), three, 1, 3)
		four := changed(three, func(y *impl.Pool) { y.Tokens = []int64{3, 1, 100} })
		checkLife(t, three, liveUpped(p, w, 1), four, 1, 0)
		checkLife(t, four, liveUpped(p, w, 1), changed(four, func(y *impl.Pool) { y.Tokens = []int64{3, 2, 100} }), 1, 0)
		// Three of kind 0 are free, and yet somebody waits: that one is woken, and no fourth one is free.
		first := changed(x, func(y *impl.Pool) {
			y.Tasks[9] = impl.Task{State: 1, Level: 3, Owner: -1, Wait: 0, On: 0, Value: 0, Turn: 20}
			y.Turn = 21
		})
		checkLife(t, x, liveUpped(p, w, 0), first, 1, 10)
		checkLife(t, first, liveUpped(p, w, 0), changed(first, func(y *impl.Pool) { y.Tokens = []int64{4, 0, 100} }), 1, 0)
		checkLife(t, x, liveUpped(p, w, 2), x, 4, 0)
		less := changed(x, func(y *impl.Pool) { y.Tokens = []int64{3, 0, 99} })
		checkLife(t, less, liveUpped(p, w, 2), x, 1, 0)
		for _, kind := range []int64{-2, -1, 3, 4} {
			checkLife(t, x, liveUpped(p, w, kind), x, 8, 0)
		}
	}
	for kind := int64(-1); kind <= 3; kind++ {
		checkLife(t, x, liveUpped(p, -1, kind), x, 8, 0)
		checkLife(t, x, liveUpped(p, 3, kind), x, 8, 0)
	}
}

// In the wakePool worker 2 runs task 0, worker 0 runs task 10, and worker 1 runs none.
func TestDownedByHand(t *testing.T) {
	p, x := wakePlan(), wakePool()
	for w, one := range map[int64]int64{2: 0, 0: 10} {
		checkLife(t, x, liveDowned(p, w, 0), changed(x, func(y *impl.Pool) { y.Tokens = []int64{2, 0, 100} }), 1, 2)
		checkLife(t, x, liveDowned(p, w, 2), changed(x, func(y *impl.Pool) { y.Tokens = []int64{3, 0, 99} }), 1, 99)
		want := changed(x, func(y *impl.Pool) {
			y.Tasks[one] = impl.Task{State: 3, Level: x.Tasks[one].Level, Owner: -1, Wait: 2, On: 1, Value: x.Tasks[one].Value, Turn: 20}
			y.Turn = 21
		})
		checkLife(t, x, liveDowned(p, w, 1), want, 7, one)
		checkLife(t, want, liveDowned(p, w, 1), want, 2, 0)
		last := changed(x, func(y *impl.Pool) { y.Tokens = []int64{3, 1, 100} })
		checkLife(t, last, liveDowned(p, w, 1), x, 1, 0)
		for _, kind := range []int64{-2, -1, 3, 4} {
			checkLife(t, x, liveDowned(p, w, kind), x, 8, 0)
		}
	}
	for kind := int64(-2); kind <= 4; kind++ {
		checkLife(t, x, liveDowned(p, 1, kind), x, 2, 0)
		checkLife(t, x, liveDowned(p, -1, kind), x, 8, 0)
		checkLife(t, x, liveDowned(p, 3, kind), x, 8, 0)
	}
}

// checkNoToken asks for the zero Pool and RpBad: of calls that would be done in the wakePool, and of ones that would be refused.
func checkNoToken(t *testing.T, p impl.Plan, x impl.Pool) {
	t.Helper()
	low, high := int64(math.MinInt64), int64(math.MaxInt64)
	for _, c := range [][2]int64{
		{0, 0}, {0, 1}, {0, 2}, {2, 1}, {1, 0}, {1, 1}, {0, -1}, {0, 3}, {1, 3}, {-1, 0}, {3, 1}, {8, 0}, {low, high}, {high, low},
	} {
		checkLife(t, x, liveUpped(p, c[0], c[1]), impl.Pool{}, 8, 0)
		checkLife(t, x, liveDowned(p, c[0], c[1]), impl.Pool{}, 8, 0)
	}
}

func TestNoTokensInAPlanThatIsNotRight(t *testing.T) {
	pools := []impl.Pool{wakePool(), {}, impl.NewPool(wakePlan()), withStop(withTurn(wakePool(), 1000000))}
	check := func(p impl.Plan) {
		t.Helper()
		for _, x := range pools {
			checkNoToken(t, p, x)
		}
	}
	for _, base := range append(rightPlans(), wakePlan()) {
		for _, f := range planFields() {
			for _, n := range append(oddNumbers(), f.least-1, f.most+1) {
				p := base
				f.put(&p, n)
				check(p)
			}
		}
	}
	check(impl.Plan{})
}

func TestNoTokensInAPoolThatIsNotRight(t *testing.T) {
	p := wakePlan()
	for name, x := range wrongPools() {
		if impl.PoolOk(p, x) {
			t.Errorf("%s: that is not right", name)
		}
		checkNoToken(t, p, x)
		checkNoToken(t, p, withStop(x))
	}
	for _, x := range append(strangePools(), impl.Pool{}) {
		checkNoToken(t, p, x)
	}
	small := wakePlan()
	small.Tasks = 11
	checkNoToken(t, small, wakePool())
	fewer := wakePlan()
	fewer.Tokens = 2
	checkNoToken(t, fewer, wakePool())
}

// tokenPools are right pools of the wakePlan in which each call meets another answer: at the end of the Turns, stopped, where nobody runs one, where nobody waits, where there is no task, where all or none are free.
func tokenPools() []impl.Pool {
	var pools []impl.Pool
	for _, tasks := range [][]impl.Task{wakePool().Tasks, plainTasks(14, 0), nil} {
		for _, free := range [][]int64{{3, 0, 100}, {100, 100, 100}, {0, 0, 0}, {1, 99, 1}} {
			x := wakePool()
			x.Tasks, x.Tokens = tasks, free
			pools = append(pools, x, withTurn(x, 1000000), withStop(x), withStop(withTurn(x, 1000000)))
		}
	}
	return pools
}

func TestWhoIsNoWorkerHasNoTokens(t *testing.T) {
	p := wakePlan()
	for _, x := range tokenPools() {
		if !impl.PoolOk(p, x) {
			t.Fatalf("%+v is right", x)
		}
		for _, w := range append(farNumbers(), -1, 3, 4, 8) {
			for _, kind := range []int64{math.MinInt64, -1, 0, 1, 2, 3, math.MaxInt64} {
				checkLife(t, x, liveUpped(p, w, kind), x, 8, 0)
				checkLife(t, x, liveDowned(p, w, kind), x, 8, 0)
			}
		}
		for w := range int64(3) {
			for kind := int64(-1); kind <= 3; kind++ {
				checkTokens(t, p, x, w, kind)
			}
		}
	}
}

func TestAllWorkersOfThePlanHaveTokens(t *testing.T) {
	for workers := int64(1); workers <= 8; workers++ {
		p := impl.Plan{Workers: workers, Tasks: 30, Levels: 2, Tokens: 2}
		x := poolOf(p, nil)
		x.Tokens[1] = 5
		for w := range workers {
			x.Tasks = append(x.Tasks, impl.Task{State: 2, Owner: w, Turn: w})
		}
		for w := int64(-2); w <= 10; w++ {
			want := [3]int64{8, 8, 8}
			if w >= 0 && w < workers {
				want = [3]int64{1, 7, 1}
			}
			_, upped := impl.Upped(p, x, w, 0)
			_, parks := impl.Downed(p, x, w, 0)
			_, takes := impl.Downed(p, x, w, 1)
			if want != [3]int64{upped.Reply, parks.Reply, takes.Reply} {
				t.Errorf("worker %d of %d: %d %d %d", w, workers, upped.Reply, parks.Reply, takes.Reply)
			}
			for kind := int64(-1); kind <= 2; kind++ {
				checkTokens(t, p, x, w, kind)
			}
		}
	}
}

// Worker 0 runs one, worker 1 runs none; so many kinds there are, whatever the number of Futures, levels or tasks.
func TestKindsAreThoseOfThePlan(t *testing.T) {
	for kinds := int64(0); kinds <= 4; kinds++ {
		for _, other := range []int64{0, 4} {
			p := impl.Plan{Workers: 2, Tasks: 9, Levels: 3, Tokens: kinds, Futures: other}
			x := poolOf(p, []impl.Task{{State: 2, Owner: 0}})
			for kind := range kinds {
				x.Tokens[kind] = 10 * kind
			}
			for _, stopped := range []bool{false, true} {
				x.Stopped = stopped
				for kind := int64(-2); kind <= 6; kind++ {
					if kind < 0 || kind >= kinds {
						checkLife(t, x, liveUpped(p, 0, kind), x, 8, 0)
						checkLife(t, x, liveUpped(p, 1, kind), x, 8, 0)
						checkLife(t, x, liveDowned(p, 0, kind), x, 8, 0)
						checkLife(t, x, liveDowned(p, 1, kind), x, 2, 0)
						continue
					}
					checkLife(t, x, liveUpped(p, 0, kind), withFree(x, kind, 10*kind+1), 1, 0)
					checkLife(t, x, liveUpped(p, 1, kind), withFree(x, kind, 10*kind+1), 1, 0)
					checkLife(t, x, liveDowned(p, 1, kind), x, 2, 0)
					if kind > 0 {
						checkLife(t, x, liveDowned(p, 0, kind), withFree(x, kind, 10*kind-1), 1, 10*kind-1)
					} else {
						checkLife(t, x, liveDowned(p, 0, kind), withParked(x, 0, kind), 7, 0)
					}
				}
			}
		}
	}
}

// How many are free has a limit, at both ends: where nobody waits, and where somebody does, whom no number of free ones keeps asleep.
func TestTokensFreeFromNoneToTheMost(t *testing.T) {
	p := wakePlan()
	for free := int64(0); free <= 100; free++ {
		for kind := range int64(3) {
			for _, turn := range []int64{20, 1000000} {
				x := impl.NewPool(p)
				x.Tasks = []impl.Task{{State: 2, Level: 1, Owner: 1, Value: 9, Turn: 4}, impl.NewTask(3, 5)}
				x.Turn, x.Tokens[kind] = turn, free
				if free < 100 {
					checkLife(t, x, liveUpped(p, 2, kind), withFree(x, kind, free+1), 1, 0)
				} else {
					checkLife(t, x, liveUpped(p, 2, kind), x, 4, 0)
				}
				if free > 0 {
					checkLife(t, x, liveDowned(p, 1, kind), withFree(x, kind, free-1), 1, free-1)
				}
				x.Tasks[1] = impl.Task{State: 3, Level: 3, Owner: -1, Wait: 2, On: kind, Value: 8, Turn: 5}
				checkTokens(t, p, x, 1, kind)
				if turn == 20 {
					want := changed(x, func(y *impl.Pool) {
						y.Tasks[1] = impl.Task{State: 1, Level: 3, Owner: -1, Value: 0, Turn: 20}
						y.Turn = 21
					})
					checkLife(t, x, liveUpped(p, 2, kind), want, 1, 2)
				} else {
					checkLife(t, x, liveUpped(p, 2, kind), x, 4, 0)
				}
			}
		}
	}
}

// Others wait, but for another kind, or for a task or a Future of that number: for them no token has come.
func TestUppedWakesNobodyWhoWaitsForAnythingElse(t *testing.T) {
	p := impl.Plan{Workers: 2, Tasks: 30, Levels: 2, Tokens: 4, Futures: 4}
	for kind := range int64(4) {
		x := poolOf(p, plainTasks(5, 100))
		for id := range int64(4) {
			x.Tasks = append(x.Tasks, impl.Task{State: 3, Owner: -1, Wait: 3, On: id, Turn: id})
			x.Tasks = append(x.Tasks, impl.Task{State: 3, Owner: -1, Wait: 1, On: id, Turn: id})
			if id != kind {
				x.Tasks = append(x.Tasks, impl.Task{State: 3, Owner: -1, Wait: 2, On: id, Turn: id})
			}
		}
		checkLife(t, x, liveUpped(p, 1, kind), withFree(x, kind, 1), 1, 0)
		full := withFree(x, kind, 100)
		checkLife(t, full, liveUpped(p, 1, kind), full, 4, 0)
		// One who waits for it too is found, behind all of these.
		one := int64(len(x.Tasks))
		x.Tasks = append(x.Tasks, impl.Task{State: 3, Owner: -1, Wait: 2, On: kind, Value: 5, Turn: 999998})
		checkLife(t, x, liveUpped(p, 1, kind), withWoken(x, one), 1, one+1)
		for other := range int64(4) {
			checkUpped(t, p, x, 0, other)
		}
	}
}

// Four wait for one kind, in every order of their Turns, of levels that go up or down with their numbers; each Upped wakes the next one.
func TestUppedWakesInEveryOrder(t *testing.T) {
	p := impl.Plan{Workers: 3, Tasks: 12, Levels: 4, Tokens: 3, Futures: 3}
	for n, order := range permutations(4) {
		for kind := range int64(3) {
			x := poolOf(p, plainTasks(12, 0))
			x.Turn = 500
			for place, i := range order {
				level := i
				if n%2 == 0 {
					level = 3 - i
				}
				x.Tasks[i+3] = impl.Task{State: 3, Level: level, Owner: -1, Wait: 2, On: kind, Value: 70 + i, Turn: 100 + 10*int64(place)}
			}
			x.Tasks[8] = impl.Task{State: 3, Level: 3, Owner: -1, Wait: 2, On: (kind + 1) % 3, Value: 1, Turn: 90}
			x.Tasks[9] = impl.Task{State: 3, Level: 3, Owner: -1, Wait: 3, On: kind, Value: 2, Turn: 91}
			x.Tasks[10] = impl.Task{State: 3, Level: 3, Owner: -1, Wait: 1, On: kind, Value: 3, Turn: 92}
			for place, i := range order {
				want := changed(x, func(y *impl.Pool) {
					y.Tasks[i+3] = impl.Task{State: 1, Level: x.Tasks[i+3].Level, Owner: -1, Value: 0, Turn: 500 + int64(place)}
					y.Turn = 501 + int64(place)
				})
				checkLife(t, x, liveUpped(p, 2, kind), want, 1, i+4)
				x = want
			}
			checkLife(t, x, liveUpped(p, 2, kind), withFree(x, kind, 1), 1, 0)
		}
	}
}

// All have one Turn: then the lesser number is first, whatever the levels.
func TestUppedOfOneTurnByNumber(t *testing.T) {
	p := impl.Plan{Workers: 1, Tasks: 30, Levels: 4, Tokens: 1}
	x := poolOf(p, nil)
	for id := range int64(30) {
		x.Tasks = append(x.Tasks, impl.Task{State: 3, Level: (id * 3) % 4, Owner: -1, Wait: 2, On: 0, Value: id, Turn: 7})
	}
	x.Turn = 8
	for id := range int64(30) {
		want := withWoken(x, id)
		checkLife(t, x, liveUpped(p, 0, 0), want, 1, id+1)
		x = want
	}
	checkLife(t, x, liveUpped(p, 0, 0), withFree(x, 0, 1), 1, 0)
}

// Of each Level some are ready; the one who is woken is the last of its own, whatever its Turn was.
func TestWhoIsGivenATokenIsBehindAllOthersOfItsLevel(t *testing.T) {
	p := impl.Plan{Workers: 2, Tasks: 16, Levels: 4, Tokens: 2}
	for one := range int64(16) {
		for level := range int64(4) {
			for _, turn := range []int64{0, 50, 199} {
				x := impl.NewPool(p)
				x.Turn = 200
				for id := range int64(16) {
					x.Tasks = append(x.Tasks, impl.NewTask((id*7)%4, (id*37)%199))
				}
				x.Tasks[one] = impl.Task{State: 3, Level: level, Owner: -1, Wait: 2, On: 1, Value: 66, Turn: turn}
				y := mustLive(t, x, liveUpped(p, 0, 1), 1, one+1)
				if k := y.Tasks[one]; k != (impl.Task{State: 1, Level: level, Owner: -1, Turn: 200}) {
					t.Fatalf("task %d is woken: %+v", one, k)
				}
				line := impl.ReadyLine(y)
				at := slices.Index(line, one)
				if at < 0 || len(line) != 16 || at+1 < len(line) && y.Tasks[line[at+1]].Level >= level {
					t.Fatalf("task %d of level %d is to be the last of it: %v of %+v", one, level, line, y)
				}
			}
		}
	}
}

// A Turn is needed to wake and to park, not to give and to take what is free; RpFull is behind all other replies.
func TestTokensAtTheEndOfTheTurns(t *testing.T) {
	p := wakePlan()
	for _, turn := range []int64{999998, 999999, 1000000} {
		x := impl.NewPool(p)
		x.Tasks = []impl.Task{
			{State: 2, Level: 1, Owner: 1, Value: 8, Turn: 9}, {State: 2, Level: 2, Owner: 2, Turn: 3},
			{State: 3, Level: 3, Owner: -1, Wait: 2, On: 1, Value: 4, Turn: 30}, {State: 3, Owner: -1, Wait: 2, On: 1, Value: 5, Turn: 20}, {State: 3, Owner: -1, Wait: 2, On: 1, Value: 6, Turn: 25},
		}
		x.Turn, x.Tokens = turn, []int64{7, 0, 0}
		checkLife(t, x, liveUpped(p, 0, 0), withFree(x, 0, 8), 1, 0)
		checkLife(t, x, liveUpped(p, 0, 2), withFree(x, 2, 1), 1, 0)
		checkLife(t, x, liveDowned(p, 1, 0), withFree(x, 0, 6), 1, 6)
		most := withFree(x, 2, 100)
		checkLife(t, most, liveUpped(p, 0, 2), most, 4, 0)
		for _, w := range []int64{1, 2} {
			checkLife(t, x, liveDowned(p, w, -1), x, 8, 0)
			checkLife(t, x, liveDowned(p, w, 3), x, 8, 0)
			for _, kind := range []int64{1, 2} {
				if turn == 1000000 {
					checkLife(t, x, liveDowned(p, w, kind), x, 4, 0)
				} else {
					checkLife(t, x, liveDowned(p, w, kind), withParked(x, w-1, kind), 7, w-1)
				}
			}
		}
		for kind := int64(-1); kind <= 3; kind++ {
			checkLife(t, x, liveDowned(p, 0, kind), x, 2, 0)
			for _, w := range []int64{-1, 3} {
				checkLife(t, x, liveDowned(p, w, kind), x, 8, 0)
				checkLife(t, x, liveUpped(p, w, kind), x, 8, 0)
			}
		}
		checkLife(t, x, liveUpped(p, 0, -1), x, 8, 0)
		checkLife(t, x, liveUpped(p, 0, 3), x, 8, 0)
		// As many are woken as there are Turns left, one after the other; the next one is not.
		line := []int64{3, 4, 2}
		for i, one := range line {
			if turn+int64(i) >= 1000000 {
				checkLife(t, x, liveUpped(p, 0, 1), x, 4, 0)
				break
			}
			want := withWoken(x, one)
			checkLife(t, x, liveUpped(p, 0, 1), want, 1, one+1)
			x = want
		}
	}
}

// The one that takes and the one that waits, of each State, at all places of lists of several lengths.
func TestTokensOfEachState(t *testing.T) {
	p := wakePlan()
	for _, length := range []int64{1, 2, 7, 14} {
		for _, at := range spots(int(length)) {
			for state := int64(1); state <= 5; state++ {
				x := poolOf(p, plainTasks(length, 0))
				x.Tasks[at] = eachState(state)
				for _, free := range []int64{0, 1, 100} {
					x.Tokens[0] = free
					for w := int64(-1); w <= 3; w++ {
						checkTokens(t, p, x, w, 0)
						checkTokens(t, p, x, w, 1)
						checkTokens(t, p, withStop(x), w, 0)
					}
				}
			}
		}
	}
}

// So many take a token of which none is free, in an order of their own; then as many are given: they get one each in that order, and one more is free.
func TestWhoeverWaitsForATokenGetsIt(t *testing.T) {
	p := impl.Plan{Workers: 6, Tasks: 6, Levels: 1, Tokens: 3}
	for count := int64(0); count <= 4; count++ {
		for _, order := range permutations(count) {
			for kind := range int64(3) {
				x := allRunning(t, p, count+1)
				for _, one := range order {
					x = mustLive(t, x, liveDowned(p, one, kind), 7, one)
					if k := x.Tasks[one]; k != (impl.Task{State: 3, Owner: -1, Wait: 2, On: kind, Turn: x.Turn - 1}) {
						t.Fatalf("task %d waits: %+v", one, k)
					}
				}
				if !slices.Equal(impl.WaitersOn(x, 2, kind), order) {
					t.Fatalf("%v wait, not %v", impl.WaitersOn(x, 2, kind), order)
				}
				turn := x.Turn
				for _, one := range order {
					x = mustLive(t, x, liveUpped(p, count, kind), 1, one+1)
				}
				checkAllGot(t, x, order, 0, turn)
				x = mustLive(t, x, liveUpped(p, count, kind), 1, 0)
				x = mustLive(t, x, liveDowned(p, count, kind), 1, 0)
				mustLive(t, x, liveDowned(p, count, kind), 7, count)
			}
		}
	}
}

// One gives up to the most, another takes down to none, and then waits until one more comes.
func TestTokensUpAndDown(t *testing.T) {
	p := impl.Plan{Workers: 2, Tasks: 2, Levels: 1, Tokens: 2}
	for kind := range int64(2) {
		x := impl.NewPool(p)
		x = mustLive(t, x, liveSpawned(p, 0, 0), 1, 0)
		x = mustLive(t, x, liveTaken(p, 1), 1, 0)
		for range 100 {
			x = mustLive(t, x, liveUpped(p, 0, kind), 1, 0)
		}
		for range 2 {
			x = mustLive(t, x, liveUpped(p, 0, kind), 4, 0)
		}
		for left := int64(99); left >= 0; left-- {
			x = mustLive(t, x, liveDowned(p, 1, kind), 1, left)
		}
		if x.Turn != 2 || !slices.Equal(x.Tokens, []int64{0, 0}) {
			t.Fatalf("what is free needs no Turn: %+v", x)
		}
		for range 3 {
			x = mustLive(t, x, liveDowned(p, 1, kind), 7, 0)
			x = mustLive(t, x, liveDowned(p, 1, kind), 2, 0)
			x = mustLive(t, x, liveTaken(p, 1), 2, 0)
			x = mustLive(t, x, liveUpped(p, 0, kind), 1, 1)
			x = mustLive(t, x, liveTaken(p, 1), 1, 0)
		}
		if x.Turn != 8 || !slices.Equal(x.Tokens, []int64{0, 0}) || impl.CountOf(x, 2) != 1 {
			t.Fatalf("one waited three times: %+v", x)
		}
	}
}

// Who is cancelled waits no more: the token that comes then is for the next one, or is free.
func TestNoTokenForWhoIsCancelled(t *testing.T) {
	p := impl.Plan{Workers: 3, Tasks: 3, Levels: 1, Tokens: 1}
	x := allRunning(t, p, 3)
	x = mustLive(t, x, liveDowned(p, 1, 0), 7, 1)
	x = mustLive(t, x, liveDowned(p, 0, 0), 7, 0)
	x = mustLive(t, x, liveCancelled(p, 2, 1), 1, 0)
	y := mustLive(t, x, liveUpped(p, 2, 0), 1, 1)
	mustLive(t, y, liveUpped(p, 2, 0), 1, 0)
	x = mustLive(t, x, liveCancelled(p, 2, 0), 1, 0)
	x = mustLive(t, x, liveUpped(p, 2, 0), 1, 0)
	if x.Tokens[0] != 1 {
		t.Fatalf("one is free: %+v", x)
	}
}

// purse counts, of each kind, what was given and what was taken. What was given is told by the calls alone, what was taken by the tasks alone.
type purse struct {
	given [4]int64
	taken [4]int64
}

// count is told the answer of a call of which code is 1 where it gives and -1 where it takes one of that kind, and 0 for any other call.
func (c *purse) count(x impl.Pool, y impl.Pool, code int64, kind int64, a impl.Answer) {
	if code == 1 && a.Reply == 1 {
		c.given[kind]++
	}
	if code == -1 && a.Reply == 1 {
		c.taken[kind]++
	}
	for id, k := range x.Tasks {
		if k.State == 3 && k.Wait == 2 && y.Tasks[id].State == 1 {
			c.taken[k.On]++
		}
	}
}

// checkNoneLost asks too that nobody waits for what is free: from a new pool on, no call makes that so.
func (c *purse) checkNoneLost(t *testing.T, y impl.Pool) {
	t.Helper()
	for kind, free := range y.Tokens {
		if free+c.taken[kind] != c.given[kind] {
			t.Fatalf("kind %d: %d are free and %d were taken of %d: %+v", kind, free, c.taken[kind], c.given[kind], y)
		}
		if free > 0 && len(waitersOn(y, 2, int64(kind))) > 0 {
			t.Fatalf("kind %d: %d are free, and somebody waits: %+v", kind, free, y)
		}
	}
}

// tokenCall is a call of chapters 6 to 8; code is told to the purse.
type tokenCall struct {
	live liver
	code int64
	kind int64
}

func tokenCalls(p impl.Plan, w int64) []tokenCall {
	calls := []tokenCall{{live: liveSpawned(p, w, 0)}, {live: liveTaken(p, w)}, {live: liveYielded(p, w)}, {live: liveEnded(p, w, w+7)}}
	for id := range p.Tasks {
		calls = append(calls, tokenCall{live: liveCancelled(p, w, id)}, tokenCall{live: liveJoined(p, w, id)})
	}
	for kind := range p.Tokens {
		calls = append(calls, tokenCall{liveUpped(p, w, kind), 1, kind}, tokenCall{liveDowned(p, w, kind), -1, kind})
	}
	return calls
}

// counted is a pool and what was given and taken on one way to it.
type counted struct {
	pool impl.Pool
	kept purse
}

// compareCounted does not look at what was taken: it is what was given, less what is free, or the test has failed by then. The Turn is one more than that of the last of the tasks.
func compareCounted(a counted, b counted) int {
	if by := slices.Compare(a.pool.Tokens, b.pool.Tokens); by != 0 {
		return by
	}
	if by := slices.Compare(a.kept.given[:], b.kept.given[:]); by != 0 {
		return by
	}
	return comparePools(a.pool, b.pool)
}

// In all pools that a few calls make of the new one, each call is what the chapter tells, and no token is lost.
func TestTokensFromTheBeginning(t *testing.T) {
	p := impl.Plan{Workers: 2, Tasks: 2, Levels: 1, Tokens: 2}
	all := []counted{{pool: impl.NewPool(p)}}
	for range 7 {
		var next []counted
		for _, one := range all {
			x := one.pool
			for w := range p.Workers {
				for _, c := range tokenCalls(p, w) {
					y, a := c.live(x)
					checkBeside(t, p, x, y, a)
					then := counted{y, one.kept}
					then.kept.count(x, y, c.code, c.kind, a)
					then.kept.checkNoneLost(t, y)
					if a.Reply == 1 || a.Reply == 7 {
						next = append(next, then)
					}
				}
				for kind := int64(-1); kind <= 2; kind++ {
					checkTokens(t, p, x, w, kind)
				}
			}
		}
		slices.SortFunc(next, compareCounted)
		all = slices.CompactFunc(next, func(a counted, b counted) bool { return compareCounted(a, b) == 0 })
	}
	if len(all) < 900 {
		t.Fatalf("seven calls make more than these %d pools", len(all))
	}
}

// A long life in which most of those who run take tokens; the pool begins with some that were given before.
func TestTokensInALongPlay(t *testing.T) {
	p := impl.Plan{Workers: 5, Tasks: 30, Levels: 3, Tokens: 4, Futures: 2}
	told := map[[2]int64]int{}
	for seed := range int64(24) {
		state := uint64(seed)*2654435761 + 11
		pick := func(n int64) int64 {
			state = state*6364136223846793005 + 1442695040888963407
			return int64(state>>33) % n
		}
		x := impl.NewPool(p)
		x.Tokens = []int64{0, 2, 99, 100}
		if seed%4 == 3 {
			x.Turn = 1000000 - 60
		}
		kept := purse{given: [4]int64{0, 2, 99, 100}}
		for range 400 {
			w, n, kind := pick(5), pick(3), pick(5)
			checkTokens(t, p, x, w, kind)
			c := tokenCall{live: liveTaken(p, w)}
			switch pick(12) {
			case 0:
				c.live = liveSpawned(p, w, n)
			case 1:
				c.live = []liver{liveYielded(p, w), liveEnded(p, w, n), liveCancelled(p, w, pick(30)), liveJoined(p, w, pick(30)), liveLeveled(p, w, pick(30), n)}[pick(5)]
			case 2, 3, 4:
				c = tokenCall{liveUpped(p, w, kind), 1, kind}
			case 5, 6, 7, 8:
				c = tokenCall{liveDowned(p, w, kind), -1, kind}
			}
			y, a := c.live(x)
			checkBeside(t, p, x, y, a)
			kept.count(x, y, c.code, c.kind, a)
			kept.checkNoneLost(t, y)
			told[[2]int64{c.code, a.Reply}]++
			x = y
		}
	}
	for _, one := range [][2]int64{{1, 1}, {1, 4}, {1, 8}, {-1, 1}, {-1, 2}, {-1, 4}, {-1, 7}, {-1, 8}} {
		if told[one] == 0 {
			t.Errorf("%v is told in none of these lives: %v", one, told)
		}
	}
}

func TestTokensWithNumbersAtTheEnds(t *testing.T) {
	p := wakePlan()
	for _, x := range append(tokenPools(), mixedPool(p), edgePool(p), impl.NewPool(p)) {
		for _, far := range append(farNumbers(), -1, 1<<8, 1<<8+2, 1<<16+1, 1<<32, 1<<33+2, math.MinInt64+2) {
			for n := int64(-1); n <= 3; n++ {
				checkTokens(t, p, x, n, far)
				checkTokens(t, p, x, far, n)
			}
			checkTokens(t, p, x, far, far)
		}
	}
}

func TestTokensInEveryRightPool(t *testing.T) {
	for _, p := range append(rightPlans(), middlePlan(), wakePlan()) {
		for _, x := range append(rightPools(p), impl.NewPool(p)) {
			for w := int64(-1); w <= p.Workers; w++ {
				for kind := int64(-1); kind <= p.Tokens; kind++ {
					checkTokens(t, p, x, w, kind)
					checkTokens(t, p, withStop(x), w, kind)
				}
			}
		}
	}
}

func TestTokensOfNilAndOfEmptyListsAreAlike(t *testing.T) {
	bare := impl.Plan{Workers: 2, Tasks: 4, Levels: 1}
	some := impl.Plan{Workers: 2, Tasks: 4, Levels: 1, Tokens: 2}
	for _, p := range []impl.Plan{bare, some, wakePlan(), {}} {
		for _, tasks := range [][]impl.Task{nil, {{State: 2, Owner: 1}, {State: 1, Owner: -1}}} {
			for _, free := range [][]int64{nil, {1, 0}} {
				none := impl.Pool{Tasks: tasks, Tokens: free, Turn: 5}
				empty := impl.Pool{Tasks: tasks, Tokens: free, Futures: []impl.Future{}, Turn: 5}
				if len(tasks) == 0 {
					empty.Tasks = []impl.Task{}
				}
				if len(free) == 0 {
					empty.Tokens = []int64{}
				}
				for w := int64(-1); w <= 2; w++ {
					for kind := int64(-1); kind <= 2; kind++ {
						for name, live := range map[string]liver{"upped": liveUpped(p, w, kind), "downed": liveDowned(p, w, kind)} {
							a, n := live(none)
							b, m := live(empty)
							if !samePool(a, b) || n != m {
								t.Errorf("%s: %+v and %+v with nil, %+v and %+v with empty lists", name, a, n, b, m)
							}
						}
					}
				}
			}
		}
	}
	checkLife(t, impl.Pool{}, liveUpped(bare, 1, 0), impl.Pool{}, 8, 0)
	checkLife(t, impl.Pool{}, liveDowned(bare, 1, 0), impl.Pool{}, 2, 0)
	zero := impl.Pool{Tokens: []int64{0, 0}}
	checkLife(t, zero, liveUpped(some, 1, 1), impl.Pool{Tokens: []int64{0, 1}}, 1, 0)
	checkLife(t, zero, liveDowned(some, 1, 1), zero, 2, 0)
}

func TestTokensAnswerAtEveryArgument(t *testing.T) {
	defer func() {
		if r := recover(); r != nil {
			t.Fatal("a function of chapter 8 panics:", r)
		}
	}()
	ends := []int64{math.MinInt64, -1, 0, 1, 2, 3, 4, 9, 100, math.MaxInt64}
	pools := append(strangePools(), wakePool())
	for _, p := range rightPlans() {
		pools = append(pools, rightPools(p)...)
	}
	for _, p := range append(rightPlans(), impl.Plan{}, wakePlan(), impl.Plan{Workers: math.MaxInt64, Tasks: math.MinInt64, Tokens: -1}) {
		for _, x := range pools {
			right := impl.PoolOk(p, x)
			for _, w := range ends {
				for _, kind := range ends {
					if right {
						checkTokens(t, p, x, w, kind)
						continue
					}
					checkLife(t, x, liveUpped(p, w, kind), impl.Pool{}, 8, 0)
					checkLife(t, x, liveDowned(p, w, kind), impl.Pool{}, 8, 0)
				}
			}
		}
	}
}
