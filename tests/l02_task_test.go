package tests

import (
	"math"
	"testing"

	"loop.example/g00706/impl"
)

// The constants stay untyped: each fits a small type as it fits the int64 of a Task.
const (
	_ int8  = impl.TkReady + impl.TkRunning + impl.TkParked + impl.TkDone + impl.TkCancelled
	_ int8  = impl.WtNone + impl.WtTask + impl.WtToken + impl.WtFuture
	_ int32 = impl.MaxValue + impl.MaxTurn
)

// taskField is one number of a task; ranges tells from where to where it may be, the other numbers of the task being as they are.
type taskField struct {
	name   string
	put    func(t *impl.Task, n int64)
	ranges func(p impl.Plan, t impl.Task) (least int64, most int64)
}

func taskFields() []taskField {
	return []taskField{
		{"Level", func(t *impl.Task, n int64) { t.Level = n },
			func(p impl.Plan, t impl.Task) (int64, int64) { return 0, p.Levels - 1 }},
		{"Owner", func(t *impl.Task, n int64) { t.Owner = n },
			func(p impl.Plan, t impl.Task) (int64, int64) {
				if t.State == 2 {
					return 0, p.Workers - 1
				}
				return -1, -1
			}},
		{"On", func(t *impl.Task, n int64) { t.On = n },
			func(p impl.Plan, t impl.Task) (int64, int64) {
				return 0, []int64{1, p.Tasks, p.Tokens, p.Futures}[t.Wait] - 1
			}},
		{"Value", func(t *impl.Task, n int64) { t.Value = n },
			func(impl.Plan, impl.Task) (int64, int64) { return 0, 9999 }},
		{"Turn", func(t *impl.Task, n int64) { t.Turn = n },
			func(impl.Plan, impl.Task) (int64, int64) { return 0, 1000000 }},
	}
}

// farNumbers are out of every range of a task; some would be in range if their upper bits were lost.
func farNumbers() []int64 {
	return []int64{
		math.MinInt64, math.MinInt64 + 1, -1 << 32, math.MinInt32, -256, -2,
		1 << 31, 1 << 32, 1<<32 + 1, 1<<32 + 2, 1<<32 + 3, 1 << 62, math.MaxInt64 - 1, math.MaxInt64,
	}
}

// rightTasks are tasks of each state that a plan allows, at both ends of what the state wants and between them.
func rightTasks(p impl.Plan) []impl.Task {
	top := p.Levels - 1
	list := []impl.Task{
		{State: 1, Level: 0, Owner: -1, Value: 0, Turn: 0},
		{State: 1, Level: top, Owner: -1, Value: 9999, Turn: 1000000},
		{State: 2, Level: 0, Owner: 0, Value: 17, Turn: 3},
		{State: 2, Level: top, Owner: p.Workers - 1, Value: 9999, Turn: 1000000},
		{State: 3, Level: 0, Owner: -1, Wait: 1, On: 0, Value: 5, Turn: 999999},
		{State: 3, Level: top, Owner: -1, Wait: 1, On: p.Tasks - 1},
		{State: 4, Level: 0, Owner: -1, Value: 9999, Turn: 1},
		{State: 4, Level: top, Owner: -1, Value: 0, Turn: 500000},
		{State: 5, Level: 0, Owner: -1, Value: 1, Turn: 1000000},
		{State: 5, Level: top, Owner: -1, Value: 9998, Turn: 0},
	}
	for i, count := range []int64{p.Tokens, p.Futures} {
		if wait := int64(i) + 2; count > 0 {
			list = append(list,
				impl.Task{State: 3, Owner: -1, Wait: wait, On: 0, Value: 9999, Turn: 7},
				impl.Task{State: 3, Level: top, Owner: -1, Wait: wait, On: count - 1, Turn: 1000000})
		}
	}
	return list
}

func TestTaskNumbersAreThoseOfTheDocument(t *testing.T) {
	states := [5]int{impl.TkReady, impl.TkRunning, impl.TkParked, impl.TkDone, impl.TkCancelled}
	waits := [4]int{impl.WtNone, impl.WtTask, impl.WtToken, impl.WtFuture}
	if states != [5]int{1, 2, 3, 4, 5} || waits != [4]int{0, 1, 2, 3} || impl.MaxValue != 9999 || impl.MaxTurn != 1000000 {
		t.Fatal(states, waits, impl.MaxValue, impl.MaxTurn)
	}
}

func TestNewTaskIsRightAndOpen(t *testing.T) {
	for _, p := range rightPlans() {
		for level := int64(0); level < p.Levels; level++ {
			for _, turn := range []int64{0, 1, 2, 500000, 999999, 1000000} {
				n := impl.NewTask(level, turn)
				if n != (impl.Task{State: 1, Level: level, Owner: -1, Wait: 0, On: 0, Value: 0, Turn: turn}) {
					t.Errorf("level %d, turn %d: %+v", level, turn, n)
				}
				if !impl.TaskOk(p, n) || !impl.IsOpen(n) {
					t.Errorf("%+v: a new task %+v is right and open", p, n)
				}
			}
		}
	}
}

// The document names no answer for a level or turn past the limits: the task has what was told, and is not right.
func TestNewTaskPastTheLimitsIsAsToldButNotRight(t *testing.T) {
	for _, p := range rightPlans() {
		told := [][2]int64{{-1, 5}, {p.Levels, 5}, {0, -1}, {0, 1000001}, {p.Levels, 1000001}, {-1, -1}}
		for _, far := range farNumbers() {
			told = append(told, [2]int64{far, 5}, [2]int64{0, far}, [2]int64{far, far})
		}
		for _, two := range told {
			n := impl.NewTask(two[0], two[1])
			if n != (impl.Task{State: 1, Level: two[0], Owner: -1, Turn: two[1]}) || !impl.IsOpen(n) {
				t.Errorf("NewTask of %v: %+v", two, n)
			}
			if impl.TaskOk(p, n) {
				t.Errorf("%+v: %+v is not right", p, n)
			}
		}
	}
}

func TestTaskIsRightWithinEachLimitAlone(t *testing.T) {
	for _, p := range rightPlans() {
		for _, task := range rightTasks(p) {
			if !impl.TaskOk(p, task) {
				t.Errorf("%+v: %+v is right", p, task)
			}
			for _, f := range taskFields() {
				least, most := f.ranges(p, task)
				numbers := append(farNumbers(), least-1, least, (least+most)/2, most, most+1)
				for n := int64(-3); n <= 33; n++ {
					numbers = append(numbers, n)
				}
				for _, n := range numbers {
					changed := task
					f.put(&changed, n)
					if got := impl.TaskOk(p, changed); got != (least <= n && n <= most) {
						t.Errorf("%+v: %s %d: %+v: %v", p, f.name, n, changed, got)
					}
				}
			}
		}
	}
}

func TestStatesAreOneToFive(t *testing.T) {
	p := impl.Plan{Workers: 3, Tasks: 10, Levels: 3, Tokens: 2, Futures: 2}
	for _, base := range []impl.Task{{Owner: -1}, {Owner: 0}, {Owner: -1, Wait: 1, On: 2}} {
		for _, s := range append(farNumbers(), -1, 0, 1, 2, 3, 4, 5, 6, 7, 8) {
			task := base
			task.State = s
			want := s == 1 || s == 4 || s == 5
			if base.Owner == 0 {
				want = s == 2
			} else if base.Wait == 1 {
				want = s == 3
			}
			if got := impl.TaskOk(p, task); got != want {
				t.Errorf("%+v: %v", task, got)
			}
		}
	}
}

func TestOnlyWhoRunsHasAnOwner(t *testing.T) {
	p := impl.Plan{Workers: 3, Tasks: 10, Levels: 3, Tokens: 2, Futures: 2}
	for s := int64(1); s <= 5; s++ {
		for _, owner := range append(farNumbers(), -1, 0, 1, 2, 3, 4) {
			task := impl.Task{State: s, Owner: owner}
			if s == impl.TkParked {
				task.Wait = impl.WtTask
			}
			want := owner == -1
			if s == impl.TkRunning {
				want = owner == 0 || owner == 1 || owner == 2
			}
			if got := impl.TaskOk(p, task); got != want {
				t.Errorf("%+v: %v", task, got)
			}
		}
	}
}

func TestOnlyWhoIsParkedWaits(t *testing.T) {
	p := impl.Plan{Workers: 3, Tasks: 10, Levels: 3, Tokens: 2, Futures: 1}
	counts := map[int64]int64{1: 10, 2: 2, 3: 1}
	for s := int64(1); s <= 5; s++ {
		for _, wait := range append(farNumbers(), -1, 0, 1, 2, 3, 4, 5) {
			for _, on := range append(farNumbers(), -1, 0, 1, 2, 3, 9, 10, 11, 30) {
				task := impl.Task{State: s, Owner: -1, Wait: wait, On: on}
				if s == impl.TkRunning {
					task.Owner = 2
				}
				want := wait == 0 && on == 0
				if s == impl.TkParked {
					want = on >= 0 && on < counts[wait]
				}
				if got := impl.TaskOk(p, task); got != want {
					t.Errorf("%+v: %v", task, got)
				}
			}
		}
	}
}

func TestNobodyWaitsForAKindThatThePlanHasNot(t *testing.T) {
	for tokens := int64(0); tokens <= 4; tokens++ {
		for futures := int64(0); futures <= 4; futures++ {
			for _, tasks := range []int64{1, 2, 30} {
				p := impl.Plan{Workers: 1, Tasks: tasks, Levels: 1, Tokens: tokens, Futures: futures}
				for on := int64(-1); on <= 31; on++ {
					for wait, count := range map[int64]int64{1: tasks, 2: tokens, 3: futures} {
						task := impl.Task{State: 3, Owner: -1, Wait: wait, On: on}
						if got := impl.TaskOk(p, task); got != (on >= 0 && on < count) {
							t.Errorf("%+v: %+v: %v", p, task, got)
						}
					}
				}
			}
		}
	}
}

func TestNoTaskIsRightInAPlanThatIsNot(t *testing.T) {
	for _, p := range rightPlans() {
		for _, task := range append(rightTasks(p), impl.NewTask(0, 1)) {
			for _, f := range planFields() {
				for _, n := range append(oddNumbers(), f.least-1, f.most+1) {
					q := p
					f.put(&q, n)
					if impl.TaskOk(q, task) {
						t.Errorf("%s %d: in %+v %+v is not right", f.name, n, q, task)
					}
				}
			}
			if impl.TaskOk(impl.Plan{}, task) {
				t.Errorf("in the zero plan %+v is not right", task)
			}
		}
		if impl.TaskOk(p, impl.Task{}) {
			t.Errorf("%+v: the zero task is not right", p)
		}
	}
}

func TestIsOpenAsksTheStateAlone(t *testing.T) {
	low, high := int64(math.MinInt64), int64(math.MaxInt64)
	bases := []impl.Task{
		{}, {Owner: -1}, {Owner: 1},
		{Owner: -1, Wait: 3, On: 1, Value: 9999, Turn: 12},
		{Level: low, Owner: low, Wait: low, On: low, Value: low, Turn: low},
		{Level: high, Owner: high, Wait: high, On: high, Value: high, Turn: high},
	}
	for _, task := range bases {
		for _, s := range append(farNumbers(), -5, -4, -3, -1, 0, 1, 2, 3, 4, 5, 6, 7, 8, 9) {
			task.State = s
			if got := impl.IsOpen(task); got != (s == 1 || s == 2 || s == 3) {
				t.Errorf("%+v: open is %v", task, got)
			}
		}
	}
}

// taskAnswer is all that chapter 2 tells of one plan and one task.
type taskAnswer struct {
	right bool
	open  bool
	made  impl.Task
}

func taskAnswers(p impl.Plan, task impl.Task) taskAnswer {
	return taskAnswer{impl.TaskOk(p, task), impl.IsOpen(task), impl.NewTask(task.Level, task.Turn)}
}

func TestTaskFunctionsAnswerAtEveryArgument(t *testing.T) {
	defer func() {
		if r := recover(); r != nil {
			t.Fatal("a function of chapter 2 panics:", r)
		}
	}()
	ends := []int64{math.MinInt64, -1, 0, 1, 3, 6, math.MaxInt64}
	fields := append(taskFields(),
		taskField{name: "State", put: func(t *impl.Task, n int64) { t.State = n }},
		taskField{name: "Wait", put: func(t *impl.Task, n int64) { t.Wait = n }})
	type question struct {
		p    impl.Plan
		task impl.Task
	}
	var asked []question
	var told []taskAnswer
	for _, p := range rightPlans() {
		for _, pf := range planFields() {
			for _, e := range ends {
				q := p
				pf.put(&q, e)
				for _, task := range rightTasks(p) {
					for _, tf := range fields {
						for _, n := range ends {
							k := task
							tf.put(&k, n)
							asked = append(asked, question{q, k})
							told = append(told, taskAnswers(q, k))
						}
					}
				}
			}
		}
	}
	// Asked again from the last one back, the answers are the same: none depends on what was asked before.
	for i := len(asked) - 1; i >= 0; i-- {
		if again := taskAnswers(asked[i].p, asked[i].task); again != told[i] {
			t.Errorf("%+v: %v, then %v", asked[i], told[i], again)
		}
	}
}
