package tests

import (
	"cmp"
	"math"
	"slices"
	"testing"

	"loop.example/g00706/impl"
)

func liveSet(p impl.Plan, w int64, k int64, value int64) liver {
	return func(x impl.Pool) (impl.Pool, impl.Answer) { return impl.SetBy(p, x, w, k, value) }
}

func liveGot(p impl.Plan, w int64, k int64) liver {
	return func(x impl.Pool) (impl.Pool, impl.Answer) { return impl.GotBy(p, x, w, k) }
}

func liveStopped(p impl.Plan, w int64) liver {
	return func(x impl.Pool) (impl.Pool, impl.Answer) { return impl.StoppedBy(p, x, w) }
}

// checkSet, checkGot and checkStopped are told what is right by the words of the chapter, for a plan and a pool that are right.
func checkSet(t *testing.T, p impl.Plan, x impl.Pool, w int64, k int64, value int64) {
	t.Helper()
	live, line := liveSet(p, w, k, value), waitersOn(x, 3, k)
	switch {
	case w < 0 || w >= p.Workers || k < 0 || k >= p.Futures || value < 0 || value > 9999:
		checkLife(t, x, live, x, 8, 0)
	case x.Futures[k].Set:
		checkLife(t, x, live, x, 5, 0)
	case x.Turn > 1000000-int64(len(line)):
		checkLife(t, x, live, x, 4, 0)
	default:
		checkLife(t, x, live, withSet(x, k, value, line), 1, int64(len(line)))
	}
}

func checkGot(t *testing.T, p impl.Plan, x impl.Pool, w int64, k int64) {
	t.Helper()
	live, one := liveGot(p, w, k), runBy(x, w)
	switch {
	case w < 0 || w >= p.Workers:
		checkLife(t, x, live, x, 8, 0)
	case one < 0:
		checkLife(t, x, live, x, 2, 0)
	case k < 0 || k >= p.Futures:
		checkLife(t, x, live, x, 8, 0)
	case x.Futures[k].Set:
		checkLife(t, x, live, x, 1, x.Futures[k].Value)
	case x.Turn == 1000000:
		checkLife(t, x, live, x, 4, 0)
	default:
		checkLife(t, x, live, withGetter(x, one, k), 7, one)
	}
}

func checkStopped(t *testing.T, p impl.Plan, x impl.Pool, w int64) {
	t.Helper()
	live := liveStopped(p, w)
	switch {
	case w < 0 || w >= p.Workers:
		checkLife(t, x, live, x, 8, 0)
	case x.Stopped:
		checkLife(t, x, live, x, 6, 0)
	default:
		checkLife(t, x, live, withStop(x), 1, openIn(x))
	}
}

// checkFutures asks all three, of one worker, one Future and one value.
func checkFutures(t *testing.T, p impl.Plan, x impl.Pool, w int64, k int64, value int64) {
	t.Helper()
	checkSet(t, p, x, w, k, value)
	checkGot(t, p, x, w, k)
	checkStopped(t, p, x, w)
}

func openIn(x impl.Pool) int64 {
	var count int64
	for _, k := range x.Tasks {
		if k.State >= 1 && k.State <= 3 {
			count++
		}
	}
	return count
}

// withSet and withGetter are the pool but for what the call does; those of the line are woken in its order.
func withSet(x impl.Pool, k int64, value int64, line []int64) impl.Pool {
	return changed(x, func(y *impl.Pool) {
		y.Futures[k] = impl.Future{Set: true, Value: value}
		for i, one := range line {
			y.Tasks[one] = wokenTask(x.Tasks[one], value, x.Turn+int64(i))
		}
		y.Turn += int64(len(line))
	})
}

func withGetter(x impl.Pool, id int64, k int64) impl.Pool {
	return changed(x, func(y *impl.Pool) {
		y.Tasks[id] = parkedTask(x.Tasks[id], 3, k, x.Turn)
		y.Turn++
	})
}

// withFuture is the pool with that Future Set with that value, and with nobody woken.
func withFuture(x impl.Pool, k int64, value int64) impl.Pool {
	return changed(x, func(y *impl.Pool) { y.Futures[k] = impl.Future{Set: true, Value: value} })
}

func futurePlan() impl.Plan {
	return impl.Plan{Workers: 4, Tasks: 16, Levels: 3, Tokens: 4, Futures: 4}
}

// futurePool: Future 0 is Set; for Future 1 task 8 waits, for Future 2 the tasks 3, 7 and 1 in this order, for Future 3 nobody. For the tasks and the tokens of these numbers others wait. Worker 2 runs task 0, worker 0 runs task 10; 1 and 3 run none.
func futurePool() impl.Pool {
	return impl.Pool{
		Tasks: []impl.Task{
			{State: 2, Level: 1, Owner: 2, Value: 15, Turn: 7},
			{State: 3, Level: 0, Owner: -1, Wait: 3, On: 2, Value: 20, Turn: 12},
			{State: 1, Level: 1, Owner: -1, Value: 32, Turn: 5},
			{State: 3, Level: 1, Owner: -1, Wait: 3, On: 2, Value: 43, Turn: 3},
			{State: 3, Level: 2, Owner: -1, Wait: 2, On: 2, Value: 54, Turn: 1},
			{State: 4, Level: 0, Owner: -1, Value: 65, Turn: 0},
			{State: 3, Level: 1, Owner: -1, Wait: 1, On: 2, Value: 76, Turn: 2},
			{State: 3, Level: 2, Owner: -1, Wait: 3, On: 2, Value: 87, Turn: 9},
			{State: 3, Level: 2, Owner: -1, Wait: 3, On: 1, Value: 98, Turn: 6},
			{State: 5, Level: 1, Owner: -1, Value: 109, Turn: 19},
			{State: 2, Level: 2, Owner: 0, Value: 9999, Turn: 17},
			{State: 3, Level: 0, Owner: -1, Wait: 1, On: 3, Value: 121, Turn: 4},
			{State: 3, Level: 1, Owner: -1, Wait: 2, On: 3, Value: 132, Turn: 8},
		},
		Tokens:  []int64{3, 100, 0, 0},
		Futures: []impl.Future{{Set: true, Value: 7}, {}, {}, {}},
		Turn:    20,
	}
}

func TestSetByHand(t *testing.T) {
	p, x := futurePlan(), futurePool()
	for w := range int64(4) {
		for _, value := range []int64{0, 1, 9998, 9999} {
			none := changed(x, func(y *impl.Pool) { y.Futures[3] = impl.Future{Set: true, Value: value} })
			checkLife(t, x, liveSet(p, w, 3, value), none, 1, 0)
			one := changed(x, func(y *impl.Pool) {
				y.Futures[1] = impl.Future{Set: true, Value: value}
				y.Tasks[8] = impl.Task{State: 1, Level: 2, Owner: -1, Wait: 0, On: 0, Value: value, Turn: 20}
				y.Turn = 21
			})
			checkLife(t, x, liveSet(p, w, 1, value), one, 1, 1)
			three := changed(x, func(y *impl.Pool) {
				y.Futures[2] = impl.Future{Set: true, Value: value}
				y.Tasks[3] = impl.Task{State: 1, Level: 1, Owner: -1, Wait: 0, On: 0, Value: value, Turn: 20}
				y.Tasks[7] = impl.Task{State: 1, Level: 2, Owner: -1, Wait: 0, On: 0, Value: value, Turn: 21}
				y.Tasks[1] = impl.Task{State: 1, Level: 0, Owner: -1, Wait: 0, On: 0, Value: value, Turn: 22}
				y.Turn = 23
			})
			checkLife(t, x, liveSet(p, w, 2, value), three, 1, 3)
			for _, k := range []int64{-2, -1, 4, 5} {
				checkLife(t, x, liveSet(p, w, k, value), x, 8, 0)
			}
			// A Future that is Set stays as it is, also where it was Set with 0, and whatever it would be Set with.
			for _, again := range []int64{0, 1, value, 9999} {
				checkLife(t, x, liveSet(p, w, 0, again), x, 5, 0)
				checkLife(t, none, liveSet(p, w, 3, again), none, 5, 0)
				checkLife(t, one, liveSet(p, w, 1, again), one, 5, 0)
				checkLife(t, three, liveSet(p, w, 2, again), three, 5, 0)
			}
		}
		for k := int64(-1); k <= 4; k++ {
			for _, value := range []int64{-2, -1, 10000, 10001} {
				checkLife(t, x, liveSet(p, w, k, value), x, 8, 0)
			}
		}
	}
	for k := int64(-1); k <= 4; k++ {
		for _, value := range []int64{-1, 0, 9999, 10000} {
			checkLife(t, x, liveSet(p, -1, k, value), x, 8, 0)
			checkLife(t, x, liveSet(p, 4, k, value), x, 8, 0)
		}
	}
}

func TestGotByHand(t *testing.T) {
	p, x := futurePlan(), futurePool()
	for w, one := range map[int64]int64{2: 0, 0: 10} {
		checkLife(t, x, liveGot(p, w, 0), x, 1, 7)
		for k := int64(1); k <= 3; k++ {
			want := changed(x, func(y *impl.Pool) {
				y.Tasks[one] = impl.Task{State: 3, Level: x.Tasks[one].Level, Owner: -1, Wait: 3, On: k, Value: x.Tasks[one].Value, Turn: 20}
				y.Turn = 21
			})
			checkLife(t, x, liveGot(p, w, k), want, 7, one)
			checkLife(t, want, liveGot(p, w, k), want, 2, 0)
			for _, value := range []int64{0, 1, 5000, 9999} {
				set := changed(x, func(y *impl.Pool) { y.Futures[k] = impl.Future{Set: true, Value: value} })
				checkLife(t, set, liveGot(p, w, k), set, 1, value)
			}
		}
		for _, k := range []int64{-2, -1, 4, 5} {
			checkLife(t, x, liveGot(p, w, k), x, 8, 0)
		}
	}
	for k := int64(-2); k <= 5; k++ {
		for _, w := range []int64{1, 3} {
			checkLife(t, x, liveGot(p, w, k), x, 2, 0)
		}
		for _, w := range []int64{-1, 4} {
			checkLife(t, x, liveGot(p, w, k), x, 8, 0)
		}
	}
	none := impl.NewPool(p)
	checkLife(t, none, liveGot(p, 0, 0), none, 2, 0)
}

// Of the thirteen, 5 is done and 9 is cancelled.
func TestStoppedByHand(t *testing.T) {
	p, x := futurePlan(), futurePool()
	want := changed(x, func(y *impl.Pool) { y.Stopped = true })
	none := impl.NewPool(p)
	ended := impl.Pool{Tokens: []int64{0, 0, 0, 0}, Futures: make([]impl.Future, 4), Turn: 1, Stopped: true}
	for w := range int64(4) {
		checkLife(t, x, liveStopped(p, w), want, 1, 11)
		checkLife(t, none, liveStopped(p, w), ended, 1, 0)
		for again := range int64(4) {
			checkLife(t, want, liveStopped(p, again), want, 6, 0)
			checkLife(t, ended, liveStopped(p, again), ended, 6, 0)
		}
	}
	for _, y := range []impl.Pool{x, want, none, ended} {
		checkLife(t, y, liveStopped(p, -1), y, 8, 0)
		checkLife(t, y, liveStopped(p, 4), y, 8, 0)
	}
}

// checkNoFuture asks for the zero Pool and RpBad: of calls that would be done in the wakePool or in the futurePool, and of ones that would be refused.
func checkNoFuture(t *testing.T, p impl.Plan, x impl.Pool) {
	t.Helper()
	low, high := int64(math.MinInt64), int64(math.MaxInt64)
	for _, live := range []liver{
		liveSet(p, 0, 1, 5), liveSet(p, 1, 1, 0), liveSet(p, 0, 0, 5), liveSet(p, 0, 2, 5), liveSet(p, 0, 3, 5), liveSet(p, 0, 4, 5), liveSet(p, 0, 1, -1), liveSet(p, 0, 0, 10000), liveSet(p, -1, 1, 5), liveSet(p, 8, 1, 5), liveSet(p, low, high, low), liveSet(p, high, low, high),
		liveGot(p, 0, 0), liveGot(p, 2, 1), liveGot(p, 1, 0), liveGot(p, 1, 1), liveGot(p, 0, -1), liveGot(p, 0, 4), liveGot(p, -1, 0), liveGot(p, 8, 1), liveGot(p, low, high), liveGot(p, high, low),
		liveStopped(p, 0), liveStopped(p, 1), liveStopped(p, -1), liveStopped(p, 8), liveStopped(p, low), liveStopped(p, high),
	} {
		checkLife(t, x, live, impl.Pool{}, 8, 0)
	}
}

func TestNoFuturesInAPlanThatIsNotRight(t *testing.T) {
	pools := []impl.Pool{futurePool(), {}, impl.NewPool(futurePlan()), withStop(withTurn(futurePool(), 1000000))}
	for _, base := range append(rightPlans(), futurePlan()) {
		for _, f := range planFields() {
			for _, n := range append(oddNumbers(), f.least-1, f.most+1) {
				p := base
				f.put(&p, n)
				for _, x := range pools {
					checkNoFuture(t, p, x)
				}
			}
		}
	}
	for _, x := range pools {
		checkNoFuture(t, impl.Plan{}, x)
	}
}

func TestNoFuturesInAPoolThatIsNotRight(t *testing.T) {
	p := wakePlan()
	for name, x := range wrongPools() {
		if impl.PoolOk(p, x) {
			t.Errorf("%s: that is not right", name)
		}
		checkNoFuture(t, p, x)
		checkNoFuture(t, p, withStop(x))
	}
	for _, x := range append(strangePools(), impl.Pool{}) {
		checkNoFuture(t, p, x)
	}
	if !impl.PoolOk(futurePlan(), futurePool()) {
		t.Fatal("the pool is right where nothing is changed")
	}
	for _, change := range []func(p *impl.Plan){
		func(p *impl.Plan) { p.Workers = 2 }, func(p *impl.Plan) { p.Tasks = 12 }, func(p *impl.Plan) { p.Levels = 2 },
		func(p *impl.Plan) { p.Tokens = 3 }, func(p *impl.Plan) { p.Futures = 3 },
	} {
		small := futurePlan()
		change(&small)
		checkNoFuture(t, small, futurePool())
	}
}

// futurePools are right pools of the futurePlan in which each call meets another answer: at the end of the Turns, stopped, where nobody runs one, where nobody waits, where there is no task, where all or none are Set.
func futurePools() []impl.Pool {
	all := []impl.Future{{Set: true, Value: 0}, {Set: true, Value: 1}, {Set: true, Value: 5000}, {Set: true, Value: 9999}}
	var pools []impl.Pool
	for _, tasks := range [][]impl.Task{futurePool().Tasks, plainTasks(16, 0), nil} {
		for _, futures := range [][]impl.Future{futurePool().Futures, all, make([]impl.Future, 4)} {
			x := futurePool()
			x.Tasks, x.Futures = tasks, futures
			pools = append(pools, x, withTurn(x, 1000000), withStop(x), withStop(withTurn(x, 1000000)))
		}
	}
	return pools
}

func TestWhoIsNoWorkerHasNoFutures(t *testing.T) {
	p := futurePlan()
	for _, x := range futurePools() {
		if !impl.PoolOk(p, x) {
			t.Fatalf("%+v is right", x)
		}
		for _, w := range append(farNumbers(), -1, 4, 5, 8) {
			for _, k := range []int64{math.MinInt64, -1, 0, 1, 2, 3, 4, math.MaxInt64} {
				for _, value := range []int64{-1, 0, 9999, 10000} {
					checkLife(t, x, liveSet(p, w, k, value), x, 8, 0)
				}
				checkLife(t, x, liveGot(p, w, k), x, 8, 0)
			}
			checkLife(t, x, liveStopped(p, w), x, 8, 0)
		}
		for w := range int64(4) {
			for k := int64(-1); k <= 4; k++ {
				for _, value := range []int64{-1, 0, 1, 9999, 10000} {
					checkFutures(t, p, x, w, k, value)
				}
			}
		}
	}
}

func TestAllWorkersOfThePlanHaveFutures(t *testing.T) {
	for workers := int64(1); workers <= 8; workers++ {
		p := impl.Plan{Workers: workers, Tasks: 30, Levels: 2, Futures: 2}
		x := withFuture(poolOf(p, nil), 1, 5)
		for w := range workers {
			x.Tasks = append(x.Tasks, impl.Task{State: 2, Owner: w, Turn: w})
		}
		for w := int64(-2); w <= 10; w++ {
			want := [4]int64{8, 8, 8, 8}
			if w >= 0 && w < workers {
				want = [4]int64{1, 7, 1, 1}
			}
			_, set := impl.SetBy(p, x, w, 0, 3)
			_, parks := impl.GotBy(p, x, w, 0)
			_, gets := impl.GotBy(p, x, w, 1)
			_, stops := impl.StoppedBy(p, x, w)
			if want != [4]int64{set.Reply, parks.Reply, gets.Reply, stops.Reply} {
				t.Errorf("worker %d of %d: %d %d %d %d", w, workers, set.Reply, parks.Reply, gets.Reply, stops.Reply)
			}
			for k := int64(-1); k <= 2; k++ {
				checkFutures(t, p, x, w, k, 3)
			}
		}
	}
}

// Worker 0 runs one, worker 1 runs none; so many Futures there are, whatever the number of kinds of tokens. Those of an odd number are Set.
func TestFuturesAreThoseOfThePlan(t *testing.T) {
	for count := int64(0); count <= 4; count++ {
		for _, other := range []int64{0, 4} {
			p := impl.Plan{Workers: 2, Tasks: 9, Levels: 3, Tokens: other, Futures: count}
			x := poolOf(p, []impl.Task{{State: 2, Owner: 0}})
			for k := int64(1); k < count; k += 2 {
				x.Futures[k] = impl.Future{Set: true, Value: 10 * k}
			}
			for _, stopped := range []bool{false, true} {
				x.Stopped = stopped
				for k := int64(-2); k <= 6; k++ {
					checkLife(t, x, liveGot(p, 1, k), x, 2, 0)
					for w := range int64(2) {
						checkLife(t, x, liveSet(p, w, k, -1), x, 8, 0)
						checkLife(t, x, liveSet(p, w, k, 10000), x, 8, 0)
						switch {
						case k < 0 || k >= count:
							checkLife(t, x, liveSet(p, w, k, 6), x, 8, 0)
						case k%2 == 1:
							checkLife(t, x, liveSet(p, w, k, 6), x, 5, 0)
						default:
							checkLife(t, x, liveSet(p, w, k, 6), withFuture(x, k, 6), 1, 0)
						}
					}
					switch {
					case k < 0 || k >= count:
						checkLife(t, x, liveGot(p, 0, k), x, 8, 0)
					case k%2 == 1:
						checkLife(t, x, liveGot(p, 0, k), x, 1, 10*k)
					default:
						checkLife(t, x, liveGot(p, 0, k), withGetter(x, 0, k), 7, 0)
					}
				}
			}
		}
	}
}

// RpBad, of the number or of the value, is ahead of RpGone: a Future that is Set, one that is not, and one that there is not, with each value.
func TestSetToldByTheFirstOfItsRefusals(t *testing.T) {
	p := impl.Plan{Workers: 2, Tasks: 4, Levels: 1, Futures: 3}
	x := withFuture(poolOf(p, []impl.Task{{State: 3, Owner: -1, Wait: 3, On: 2}, {State: 3, Owner: -1, Wait: 3, On: 0}}), 0, 0)
	for _, turn := range []int64{5, 999999, 1000000} {
		x.Turn = turn
		for _, value := range append(farNumbers(), -1, 0, 1, 7, 9998, 9999, 10000, 10001) {
			for k := int64(-1); k <= 3; k++ {
				reply, want, out := int64(8), x, int64(0)
				switch {
				case value < 0 || value > 9999 || k == -1 || k == 3:
				case k == 0:
					reply = 5
				case k == 1:
					reply, want = 1, withFuture(x, 1, value)
				case turn == 1000000:
					reply = 4
				default:
					reply, want, out = 1, withSet(x, 2, value, []int64{0}), 1
				}
				checkLife(t, x, liveSet(p, 1, k, value), want, reply, out)
				checkLife(t, x, liveSet(p, 2, k, value), x, 8, 0)
			}
		}
	}
}

func TestSetWithEachValue(t *testing.T) {
	p := impl.Plan{Workers: 1, Tasks: 3, Levels: 1, Futures: 1}
	x := poolOf(p, []impl.Task{{State: 3, Owner: -1, Wait: 3, On: 0, Value: 4, Turn: 5}, {State: 2, Owner: 0, Value: 8}})
	for value := int64(-3); value <= 10003; value++ {
		y, a := impl.SetBy(p, x, 0, 0, value)
		z, b := impl.GotBy(p, y, 0, 0)
		if value < 0 || value > 9999 {
			if a != (impl.Answer{Reply: 8}) || !samePool(x, y) || b != (impl.Answer{Reply: 7, Out: 1}) {
				t.Fatalf("value %d: %+v, then %+v", value, a, b)
			}
			continue
		}
		if a != (impl.Answer{Reply: 1, Out: 1}) || !samePool(y, withSet(x, 0, value, []int64{0})) {
			t.Fatalf("value %d: %+v: %+v", value, a, y)
		}
		if b != (impl.Answer{Reply: 1, Out: value}) || !samePool(y, z) {
			t.Fatalf("value %d: %+v: %+v", value, b, z)
		}
	}
}

// Others wait, but for another Future, or for a task or a kind of tokens of that number: for them no value has come.
func TestSetWakesNobodyWhoWaitsForAnythingElse(t *testing.T) {
	p := impl.Plan{Workers: 2, Tasks: 30, Levels: 2, Tokens: 4, Futures: 4}
	for k := range int64(4) {
		x := poolOf(p, plainTasks(5, 100))
		for id := range int64(4) {
			x.Tasks = append(x.Tasks, impl.Task{State: 3, Owner: -1, Wait: 2, On: id, Turn: id})
			x.Tasks = append(x.Tasks, impl.Task{State: 3, Owner: -1, Wait: 1, On: id, Turn: id})
			if id != k {
				x.Tasks = append(x.Tasks, impl.Task{State: 3, Owner: -1, Wait: 3, On: id, Turn: id})
			}
		}
		checkLife(t, x, liveSet(p, 1, k, 50), withFuture(x, k, 50), 1, 0)
		// One who waits for it too is found, behind all of these.
		one := int64(len(x.Tasks))
		x.Tasks = append(x.Tasks, impl.Task{State: 3, Owner: -1, Wait: 3, On: k, Value: 5, Turn: 999998})
		checkLife(t, x, liveSet(p, 1, k, 50), withSet(x, k, 50, []int64{one}), 1, 1)
		for other := range int64(4) {
			checkSet(t, p, x, 0, other, 51)
		}
	}
}

// Four wait for one Future, in every order of their Turns, of levels that go up or down with their numbers; others wait for other things.
func TestSetWakesInEveryOrder(t *testing.T) {
	p := impl.Plan{Workers: 3, Tasks: 12, Levels: 4, Tokens: 3, Futures: 3}
	for n, order := range permutations(4) {
		for k := range int64(3) {
			x := poolOf(p, plainTasks(12, 0))
			x.Turn = 500
			for place, i := range order {
				level := i
				if n%2 == 0 {
					level = 3 - i
				}
				x.Tasks[i+3] = impl.Task{State: 3, Level: level, Owner: -1, Wait: 3, On: k, Value: 70 + i, Turn: 100 + 10*int64(place)}
			}
			x.Tasks[8] = impl.Task{State: 3, Level: 3, Owner: -1, Wait: 3, On: (k + 1) % 3, Value: 1, Turn: 90}
			x.Tasks[9] = impl.Task{State: 3, Level: 3, Owner: -1, Wait: 2, On: k, Value: 2, Turn: 91}
			x.Tasks[10] = impl.Task{State: 3, Level: 3, Owner: -1, Wait: 1, On: k, Value: 3, Turn: 92}
			want := changed(x, func(y *impl.Pool) {
				for place, i := range order {
					y.Tasks[i+3] = impl.Task{State: 1, Level: x.Tasks[i+3].Level, Owner: -1, Value: 808, Turn: 500 + int64(place)}
				}
				y.Futures[k] = impl.Future{Set: true, Value: 808}
				y.Turn = 504
			})
			checkLife(t, x, liveSet(p, 2, k, 808), want, 1, 4)
			checkLife(t, want, liveSet(p, 2, k, 809), want, 5, 0)
		}
	}
}

// All have one Turn: then the lesser number is first, whatever the levels; as many are told as wait.
func TestSetWakesAsManyAsWait(t *testing.T) {
	p := impl.Plan{Workers: 1, Tasks: 30, Levels: 4, Futures: 2}
	for count := int64(0); count <= 30; count++ {
		x := poolOf(p, nil)
		for id := range count {
			x.Tasks = append(x.Tasks, impl.Task{State: 3, Level: (id * 3) % 4, Owner: -1, Wait: 3, On: 1, Value: id, Turn: 7})
		}
		x.Turn = 8
		want := changed(x, func(y *impl.Pool) {
			for id := range count {
				y.Tasks[id] = impl.Task{State: 1, Level: (id * 3) % 4, Owner: -1, Value: 4321, Turn: 8 + id}
			}
			y.Futures[1] = impl.Future{Set: true, Value: 4321}
			y.Turn = 8 + count
		})
		checkLife(t, x, liveSet(p, 0, 1, 4321), want, 1, count)
		checkLife(t, x, liveSet(p, 0, 0, 4321), withFuture(x, 0, 4321), 1, 0)
	}
}

// Of each Level some are ready; the one who is woken is the last of its own, whatever its Turn was.
func TestWhoIsGivenAValueIsBehindAllOthersOfItsLevel(t *testing.T) {
	p := impl.Plan{Workers: 2, Tasks: 16, Levels: 4, Futures: 2}
	for one := range int64(16) {
		for level := range int64(4) {
			for _, turn := range []int64{0, 50, 199} {
				x := impl.NewPool(p)
				x.Turn = 200
				for id := range int64(16) {
					x.Tasks = append(x.Tasks, impl.NewTask((id*7)%4, (id*37)%199))
				}
				x.Tasks[one] = impl.Task{State: 3, Level: level, Owner: -1, Wait: 3, On: 1, Value: 66, Turn: turn}
				y := mustLive(t, x, liveSet(p, 0, 1, 77), 1, 1)
				if k := y.Tasks[one]; k != (impl.Task{State: 1, Level: level, Owner: -1, Value: 77, Turn: 200}) {
					t.Fatalf("task %d is woken: %+v", one, k)
				}
				line := impl.ReadyLine(y)
				at := slices.Index(line, one)
				if at < 0 || len(line) != 16 || at+1 < len(line) && y.Tasks[line[at+1]].Level >= level {
					t.Fatalf("task %d of level %d is to be the last of it: %v of %+v", one, level, line, y)
				}
			}
		}
	}
}

// As many wait as Turns are left, or fewer: done; one more: refused, the Future is not Set and nobody is woken; but behind all other refusals.
func TestSetAtTheEndOfTheTurns(t *testing.T) {
	p := futurePlan()
	for left := int64(0); left <= 5; left++ {
		for count := int64(0); count <= 6; count++ {
			x := withFuture(poolOf(p, append(parked(plainTasks(count, 3), 3, 2), impl.NewTask(2, 30), impl.Task{State: 3, Owner: -1, Wait: 3, On: 0})), 0, 12)
			x.Turn = 1000000 - left
			if count > left {
				checkLife(t, x, liveSet(p, 3, 2, 6), x, 4, 0)
			} else {
				want := changed(x, func(y *impl.Pool) {
					for i := range count {
						y.Tasks[i] = impl.Task{State: 1, Owner: -1, Value: 6, Turn: x.Turn + i}
					}
					y.Futures[2] = impl.Future{Set: true, Value: 6}
					y.Turn += count
				})
				checkLife(t, x, liveSet(p, 3, 2, 6), want, 1, count)
			}
			// For this one nobody waits, and no Turn is needed.
			checkLife(t, x, liveSet(p, 3, 1, 6), withFuture(x, 1, 6), 1, 0)
			for _, c := range [][4]int64{
				{3, 0, 6, 5}, {3, 0, -1, 8}, {3, 2, -1, 8}, {3, 2, 10000, 8}, {3, -1, 6, 8}, {3, 4, 6, 8}, {-1, 2, 6, 8}, {4, 2, 6, 8}, {4, 0, 6, 8},
			} {
				checkLife(t, x, liveSet(p, c[0], c[1], c[2]), x, c[3], 0)
			}
			y := withFuture(x, 2, 0)
			checkLife(t, y, liveSet(p, 3, 2, 6), y, 5, 0)
		}
	}
}

// To get what is Set, and to stop, needs no Turn; to wait needs one.
func TestGotAndStoppedAtTheEndOfTheTurns(t *testing.T) {
	p := futurePlan()
	for _, turn := range []int64{999998, 999999, 1000000} {
		x := withTurn(futurePool(), turn)
		for w, one := range map[int64]int64{2: 0, 0: 10} {
			checkLife(t, x, liveGot(p, w, 0), x, 1, 7)
			for k := int64(1); k <= 3; k++ {
				if turn == 1000000 {
					checkLife(t, x, liveGot(p, w, k), x, 4, 0)
				} else {
					checkLife(t, x, liveGot(p, w, k), withGetter(x, one, k), 7, one)
				}
			}
			for _, k := range []int64{-1, 4} {
				checkLife(t, x, liveGot(p, w, k), x, 8, 0)
			}
		}
		for k := int64(-1); k <= 4; k++ {
			for _, w := range []int64{1, 3} {
				checkLife(t, x, liveGot(p, w, k), x, 2, 0)
			}
			for _, w := range []int64{-1, 4} {
				checkLife(t, x, liveGot(p, w, k), x, 8, 0)
			}
		}
		for w := range int64(4) {
			checkLife(t, x, liveStopped(p, w), withStop(x), 1, 11)
			checkLife(t, withStop(x), liveStopped(p, w), withStop(x), 6, 0)
		}
		// Two wait one after the other where two Turns are left, and one where one is.
		y := x
		for _, w := range []int64{2, 0} {
			if y.Turn == 1000000 {
				checkLife(t, y, liveGot(p, w, 3), y, 4, 0)
				continue
			}
			y = mustLive(t, y, liveGot(p, w, 3), 7, runBy(y, w))
		}
		if y.Turn != 1000000 {
			t.Fatalf("no Turn is left: %+v", y)
		}
		checkSet(t, p, y, 1, 3, 8)
	}
}

// The one that gets, or waits, or is counted, of each State, at all places of lists of several lengths.
func TestFuturesOfEachState(t *testing.T) {
	p := futurePlan()
	for _, length := range []int64{1, 2, 7, 16} {
		for _, at := range spots(int(length)) {
			for state := int64(1); state <= 5; state++ {
				x := poolOf(p, plainTasks(length, 0))
				x.Futures[1] = impl.Future{Set: true, Value: 4}
				x.Tasks[at] = eachState(state)
				if state == 3 {
					x.Tasks[at].Wait = 3
				}
				for w := int64(-1); w <= 4; w++ {
					for k := int64(-1); k <= 4; k++ {
						checkFutures(t, p, x, w, k, 44)
						checkFutures(t, p, withStop(x), w, k, 44)
					}
				}
			}
		}
	}
}

// So many of each State, in every combination of a few: those that are ready, running or parked are open.
func TestStoppedTellsHowManyAreOpen(t *testing.T) {
	p := impl.Plan{Workers: 8, Tasks: 30, Levels: 1, Tokens: 1, Futures: 1}
	for code := range 3 * 3 * 3 * 3 * 3 {
		x, open := poolOf(p, nil), int64(0)
		for state, rest := int64(1), code; state <= 5; state, rest = state+1, rest/3 {
			for i := range int64(rest % 3) {
				k := impl.Task{State: state, Owner: -1, Value: 9, Turn: i}
				switch state {
				case 2:
					k.Owner = 7 - i
				case 3:
					k.Wait = 3 - i
				}
				x.Tasks = append(x.Tasks, k)
				if state <= 3 {
					open++
				}
			}
		}
		for range 2 {
			checkLife(t, x, liveStopped(p, 3), withStop(x), 1, open)
			checkLife(t, withStop(x), liveStopped(p, 3), withStop(x), 6, 0)
			slices.Reverse(x.Tasks)
		}
	}
	for _, count := range []int64{1, 15, 29, 30} {
		for state := int64(1); state <= 5; state++ {
			if state == 2 {
				continue
			}
			x := poolOf(p, plainTasks(count, 0))
			for i := range x.Tasks {
				x.Tasks[i].State = state
				if state == 3 {
					x.Tasks[i].Wait = 2
				}
			}
			open := count
			if state > 3 {
				open = 0
			}
			checkLife(t, x, liveStopped(p, 0), withStop(x), 1, open)
		}
	}
}

// A stop changes nothing but that no task comes and that whoever finds none ready is told so.
func TestFuturesGoOnWhereItIsStopped(t *testing.T) {
	p := impl.Plan{Workers: 2, Tasks: 3, Levels: 1, Futures: 1}
	x := impl.NewPool(p)
	x = mustLive(t, x, liveSpawned(p, 0, 0), 1, 0)
	x = mustLive(t, x, liveTaken(p, 0), 1, 0)
	x = mustLive(t, x, liveStopped(p, 1), 1, 1)
	x = mustLive(t, x, liveSpawned(p, 0, 0), 6, 0)
	x = mustLive(t, x, liveGot(p, 0, 0), 7, 0)
	x = mustLive(t, x, liveTaken(p, 0), 6, 0)
	x = mustLive(t, x, liveSet(p, 1, 0, 31), 1, 1)
	x = mustLive(t, x, liveTaken(p, 1), 1, 0)
	x = mustLive(t, x, liveGot(p, 1, 0), 1, 31)
	x = mustLive(t, x, liveSet(p, 0, 0, 32), 5, 0)
	x = mustLive(t, x, liveEnded(p, 1, 5), 1, 0)
	x = mustLive(t, x, liveStopped(p, 1), 6, 0)
	if x.Futures[0] != (impl.Future{Set: true, Value: 31}) || !x.Stopped {
		t.Fatalf("then %+v", x)
	}
}

// So many get a Future that is not Set, in an order of their own; then it is Set: they come in that order, each with its value, and whoever comes later gets it at once.
func TestWhoeverGetsAFutureGetsItsValue(t *testing.T) {
	p := impl.Plan{Workers: 6, Tasks: 6, Levels: 1, Tokens: 1, Futures: 3}
	for count := int64(0); count <= 4; count++ {
		for _, order := range permutations(count) {
			for k := range int64(3) {
				x := allRunning(t, p, count+1)
				for _, one := range order {
					x = mustLive(t, x, liveGot(p, one, k), 7, one)
					if is := x.Tasks[one]; is != (impl.Task{State: 3, Owner: -1, Wait: 3, On: k, Turn: x.Turn - 1}) {
						t.Fatalf("task %d waits: %+v", one, is)
					}
				}
				if !slices.Equal(impl.WaitersOn(x, 3, k), order) {
					t.Fatalf("%v wait, not %v", impl.WaitersOn(x, 3, k), order)
				}
				turn := x.Turn
				for _, value := range []int64{0, 1, 777, 9999} {
					y := mustLive(t, x, liveSet(p, 5, k, value), 1, count)
					checkAllGot(t, y, order, value, turn)
					y = mustLive(t, y, liveGot(p, count, k), 1, value)
					y = mustLive(t, y, liveSet(p, 5, k, 9999-value), 5, 0)
					for w, one := range order {
						y = mustLive(t, y, liveTaken(p, int64(w)), 1, one)
						y = mustLive(t, y, liveGot(p, int64(w), k), 1, value)
					}
					y = mustLive(t, y, liveGot(p, count, (k+1)%3), 7, count)
					if y.Turn != turn+count+1 {
						t.Fatalf("to get what is Set needs no Turn: %+v", y)
					}
				}
			}
		}
	}
}

// Who is cancelled waits no more: the value that comes then is for the others.
func TestNoValueForWhoIsCancelled(t *testing.T) {
	p := impl.Plan{Workers: 3, Tasks: 3, Levels: 1, Futures: 1}
	x := allRunning(t, p, 3)
	x = mustLive(t, x, liveGot(p, 1, 0), 7, 1)
	x = mustLive(t, x, liveGot(p, 0, 0), 7, 0)
	x = mustLive(t, x, liveCancelled(p, 2, 1), 1, 0)
	y := mustLive(t, x, liveSet(p, 2, 0, 6), 1, 1)
	if y.Tasks[0].Value != 6 || y.Tasks[0].State != 1 || y.Tasks[1].State != 5 || y.Tasks[1].Value != 0 {
		t.Fatalf("then %+v", y)
	}
	x = mustLive(t, x, liveCancelled(p, 2, 0), 1, 0)
	x = mustLive(t, x, liveSet(p, 2, 0, 6), 1, 0)
	mustLive(t, x, liveGot(p, 2, 0), 1, 6)
}

// checkSetOnce asks what P9 tells of two pools, one of which a call has made of the other; and that nobody waits for what is Set: from a new pool on, no call makes that so.
func checkSetOnce(t *testing.T, x impl.Pool, y impl.Pool) {
	t.Helper()
	for k, f := range x.Futures {
		if f.Set && y.Futures[k] != f {
			t.Fatalf("Future %d is Set again: %+v, then %+v", k, x, y)
		}
		if y.Futures[k].Set && len(waitersOn(y, 3, int64(k))) > 0 {
			t.Fatalf("Future %d is Set, and somebody waits: %+v", k, y)
		}
	}
	for id, k := range x.Tasks {
		if k.State != 3 || k.Wait != 3 {
			continue
		}
		l, f := y.Tasks[id], y.Futures[k.On]
		switch {
		case l.State == 5 || l.State == 3 && !f.Set && l.Turn == k.Turn && l.On == k.On && l.Wait == 3:
		case l.State == 1 && f.Set && l.Value == f.Value && l.Turn >= x.Turn && l.Turn < y.Turn:
		default:
			t.Fatalf("task %d waits for Future %d: %+v, then %+v", id, k.On, x, y)
		}
	}
}

// futureCalls are the calls of chapters 6 to 9 that a worker has in a pool of two tasks, one level and two Futures.
func futureCalls(p impl.Plan, w int64) []liver {
	calls := []liver{liveSpawned(p, w, 0), liveTaken(p, w), liveYielded(p, w), liveEnded(p, w, w+7), liveStopped(p, w)}
	for id := range p.Tasks {
		calls = append(calls, liveCancelled(p, w, id), liveJoined(p, w, id))
	}
	for k := range p.Futures {
		calls = append(calls, liveSet(p, w, k, 10*k+w), liveGot(p, w, k))
	}
	return calls
}

// compareFutures is asked of pools without tokens.
func compareFutures(a impl.Pool, b impl.Pool) int {
	return cmp.Or(
		cmp.Compare(flag(a.Stopped), flag(b.Stopped)),
		slices.CompareFunc(a.Futures, b.Futures, func(f impl.Future, g impl.Future) int {
			return cmp.Or(cmp.Compare(flag(f.Set), flag(g.Set)), cmp.Compare(f.Value, g.Value))
		}),
		comparePools(a, b))
}

// In all pools that a few calls make of the new one, each call is what the chapter tells, and each Future is Set once.
func TestFuturesFromTheBeginning(t *testing.T) {
	p := impl.Plan{Workers: 2, Tasks: 2, Levels: 1, Futures: 2}
	pools := []impl.Pool{impl.NewPool(p)}
	for range 7 {
		var next []impl.Pool
		for _, x := range pools {
			for w := range p.Workers {
				for _, live := range futureCalls(p, w) {
					y, a := live(x)
					checkBeside(t, p, x, y, a)
					checkSetOnce(t, x, y)
					if a.Reply == 1 || a.Reply == 7 {
						next = append(next, y)
					}
				}
				for k := int64(-1); k <= 2; k++ {
					checkFutures(t, p, x, w, k, 5)
				}
			}
		}
		pools = next
		slices.SortFunc(pools, compareFutures)
		pools = slices.CompactFunc(pools, samePool)
	}
	if len(pools) < 900 {
		t.Fatalf("seven calls make more than these %d pools", len(pools))
	}
}

// futurePlay is a long life in which most of those who run get a Future, and few Futures are Set; told counts the Replies by the call, of which the number is that of chapter 10, or 0 for those of the chapters before.
func futurePlay(t *testing.T, p impl.Plan, seed int64, told map[[2]int64]int) {
	t.Helper()
	state := uint64(seed)*2654435761 + 13
	pick := func(n int64) int64 {
		state = state*6364136223846793005 + 1442695040888963407
		return int64(state>>33) % n
	}
	x := impl.NewPool(p)
	if seed%4 == 3 {
		x.Turn = 1000000 - 40
	}
	for i := range int64(300) {
		w, n, k := pick(5), pick(3), min(pick(5), pick(6))
		value := pick(10100) - 50
		checkFutures(t, p, x, w, k, value)
		code, live := int64(0), liveTaken(p, w)
		switch pick(12) {
		case 0, 1:
			live = liveSpawned(p, w, n)
		case 2:
			live = []liver{liveYielded(p, w), liveEnded(p, w, n), liveCancelled(p, w, pick(30)), liveJoined(p, w, pick(30)), liveUpped(p, w, n), liveDowned(p, w, n)}[pick(6)]
		case 3:
			if pick(4) == 0 {
				code, live = 10, liveSet(p, w, k, value)
			}
		case 4, 5, 6, 7:
			code, live = 11, liveGot(p, w, k)
		case 8:
			if i > 250 {
				code, live = 12, liveStopped(p, w)
			}
		}
		y, a := live(x)
		checkBeside(t, p, x, y, a)
		checkSetOnce(t, x, y)
		told[[2]int64{code, a.Reply}]++
		x = y
	}
}

func TestFuturesInALongPlay(t *testing.T) {
	p := impl.Plan{Workers: 5, Tasks: 30, Levels: 3, Tokens: 2, Futures: 4}
	told := map[[2]int64]int{}
	for seed := range int64(24) {
		futurePlay(t, p, seed, told)
	}
	for _, one := range [][2]int64{{10, 1}, {10, 5}, {10, 8}, {11, 1}, {11, 2}, {11, 4}, {11, 7}, {11, 8}, {12, 1}, {12, 6}} {
		if told[one] == 0 {
			t.Errorf("%v is told in none of these lives: %v", one, told)
		}
	}
}

func TestFuturesWithNumbersAtTheEnds(t *testing.T) {
	p := futurePlan()
	for _, x := range append(futurePools(), mixedPool(p), edgePool(p), impl.NewPool(p)) {
		for _, far := range append(farNumbers(), -1, 1<<8, 1<<8+2, 1<<16+1, 1<<32, 1<<33+2, math.MinInt64+2) {
			for n := int64(-1); n <= 4; n++ {
				checkFutures(t, p, x, n, far, 9)
				checkFutures(t, p, x, far, n, 9)
				checkFutures(t, p, x, 2, n, far)
				checkFutures(t, p, x, n, far, far)
			}
			checkFutures(t, p, x, far, far, far)
		}
	}
}

func TestFuturesInEveryRightPool(t *testing.T) {
	for _, p := range append(rightPlans(), middlePlan(), wakePlan(), futurePlan()) {
		for _, x := range append(rightPools(p), impl.NewPool(p)) {
			for w := int64(-1); w <= p.Workers; w++ {
				for k := int64(-1); k <= p.Futures; k++ {
					for _, value := range []int64{-1, 0, 9999, 10000} {
						checkFutures(t, p, x, w, k, value)
						checkFutures(t, p, withStop(x), w, k, value)
					}
				}
			}
		}
	}
}

func TestFuturesOfNilAndOfEmptyListsAreAlike(t *testing.T) {
	bare := impl.Plan{Workers: 2, Tasks: 4, Levels: 1}
	some := impl.Plan{Workers: 2, Tasks: 4, Levels: 1, Futures: 2}
	for _, p := range []impl.Plan{bare, some, futurePlan(), {}} {
		for _, tasks := range [][]impl.Task{nil, {{State: 2, Owner: 1}, {State: 1, Owner: -1}}} {
			for _, futures := range [][]impl.Future{nil, {{Set: true, Value: 3}, {}}} {
				none := impl.Pool{Tasks: tasks, Futures: futures, Turn: 5}
				empty := impl.Pool{Tasks: tasks, Tokens: []int64{}, Futures: futures, Turn: 5}
				if len(tasks) == 0 {
					empty.Tasks = []impl.Task{}
				}
				if len(futures) == 0 {
					empty.Futures = []impl.Future{}
				}
				for w := int64(-1); w <= 2; w++ {
					for k := int64(-1); k <= 2; k++ {
						for name, live := range map[string]liver{"set": liveSet(p, w, k, 4), "got": liveGot(p, w, k), "stopped": liveStopped(p, w)} {
							a, n := live(none)
							b, m := live(empty)
							if !samePool(a, b) || n != m {
								t.Errorf("%s: %+v and %+v with nil, %+v and %+v with empty lists", name, a, n, b, m)
							}
						}
					}
				}
			}
		}
	}
	checkLife(t, impl.Pool{}, liveSet(bare, 1, 0, 4), impl.Pool{}, 8, 0)
	checkLife(t, impl.Pool{}, liveGot(bare, 1, 0), impl.Pool{}, 2, 0)
	checkLife(t, impl.Pool{}, liveStopped(bare, 1), impl.Pool{Stopped: true}, 1, 0)
	zero := impl.Pool{Futures: []impl.Future{{}, {}}}
	checkLife(t, zero, liveSet(some, 1, 1, 0), impl.Pool{Futures: []impl.Future{{}, {Set: true}}}, 1, 0)
	checkLife(t, zero, liveGot(some, 1, 1), zero, 2, 0)
	checkLife(t, zero, liveStopped(some, 1), withStop(zero), 1, 0)
}

func TestFuturesAnswerAtEveryArgument(t *testing.T) {
	defer func() {
		if r := recover(); r != nil {
			t.Fatal("a function of chapter 9 panics:", r)
		}
	}()
	ends := []int64{math.MinInt64, -1, 0, 1, 2, 3, 4, 9, 9999, math.MaxInt64}
	pools := append(strangePools(), wakePool(), futurePool())
	for _, p := range rightPlans() {
		pools = append(pools, rightPools(p)...)
	}
	for _, p := range append(rightPlans(), impl.Plan{}, wakePlan(), futurePlan(), impl.Plan{Workers: math.MaxInt64, Tasks: math.MinInt64, Futures: -1}) {
		for _, x := range pools {
			right := impl.PoolOk(p, x)
			for _, w := range ends {
				for i, k := range ends {
					value := ends[(i+3)%len(ends)]
					if right {
						checkFutures(t, p, x, w, k, value)
						continue
					}
					checkLife(t, x, liveSet(p, w, k, value), impl.Pool{}, 8, 0)
					checkLife(t, x, liveGot(p, w, k), impl.Pool{}, 8, 0)
					checkLife(t, x, liveStopped(p, w), impl.Pool{}, 8, 0)
				}
			}
		}
	}
}
