package sched_test

import (
	"errors"
	"math"
	"math/rand"
	"slices"
	"testing"

	"gimbal/api"
	"gimbal/sched"
)

const last = api.MaxTasks - 1

// tell is what a run tells, by its task.
type tell = func(task int) (wake []int, again int)

// nothing is a run that tells nothing.
func nothing(int) ([]int, int) {
	return nil, 0
}

// later is a run that wants to wake again.
func later(again int) tell {
	return func(int) ([]int, int) { return nil, again }
}

// tells is a run whose k-th call tells the k-th list; then it tells nothing.
func tells(lists ...[]int) tell {
	k := 0
	return func(int) ([]int, int) {
		k++
		if k > len(lists) {
			return nil, 0
		}
		return lists[k-1], 0
	}
}

// made is a table of n tasks, with those awake.
func made(t *testing.T, n int, awake ...int) *sched.Table {
	t.Helper()
	s, e := sched.New(n)
	if e != api.OK || s == nil {
		t.Fatalf("New(%d): %v, %v", n, s, e)
	}
	for _, i := range awake {
		wantWake(t, s, i, api.OK)
	}
	return s
}

func wantWake(t *testing.T, s *sched.Table, i int, want api.Errno) {
	t.Helper()
	if got := s.Wake(i); got != want {
		t.Fatalf("Wake(%d): %v; want %v", i, got, want)
	}
}

func wantTick(t *testing.T, s *sched.Table, n int, want api.Errno) {
	t.Helper()
	if got := s.Tick(n); got != want {
		t.Fatalf("Tick(%d): %v; want %v", n, got, want)
	}
}

func wantRun(t *testing.T, s *sched.Table, most int, run tell, want ...int) {
	t.Helper()
	if got, e := s.Run(most, run); e != api.OK || !slices.Equal(got, want) {
		t.Fatalf("Run(%d): %v, %v; want %v", most, got, e, want)
	}
}

// wantAll asks the table in every way that changes nothing.
func wantAll(t *testing.T, s *sched.Table, now int64, awake ...int) {
	t.Helper()
	if got := s.Now(); got != now {
		t.Fatalf("Now: %d; want %d", got, now)
	}
	if got := s.Awake(); !slices.Equal(got, awake) {
		t.Fatalf("Awake: %v; want %v", got, awake)
	}
}

// upTo is 0, 1 .. n - 1.
func upTo(n int) []int {
	list := make([]int, n)
	for i := range list {
		list[i] = i
	}
	return list
}

// noTasks is numbers that are no tasks of a table of n.
func noTasks(n int) []int {
	return []int{-1, -2, -n, -api.MaxTasks, math.MinInt32, math.MinInt, n, n + 1, 2 * n, api.MaxTasks, api.MaxTimer, 1 << 32, 1<<32 + 1, math.MaxInt}
}

// TestExample is that of the chapter.
func TestExample(t *testing.T) {
	s := made(t, 3, 1)
	wantRun(t, s, api.MaxRuns, tells([]int{0, 2}), 1, 0, 2)
	wantAll(t, s, 0)
}

func TestNew(t *testing.T) {
	for n := 1; n <= api.MaxTasks; n++ {
		s := made(t, n)
		wantAll(t, s, 0)
		wantRun(t, s, api.MaxRuns, nothing)
		for i := n - 1; i >= 0; i-- {
			wantWake(t, s, i, api.OK)
			wantAll(t, s, 0, upTo(n)[i:]...)
		}
		wantRun(t, s, api.MaxRuns, nothing, upTo(n)...)
		wantAll(t, s, 0)
	}
}

func TestNewWrong(t *testing.T) {
	for _, n := range []int{0, -1, -api.MaxTasks, math.MinInt, api.MaxTasks + 1, 2 * api.MaxTasks, 1 << 32, 1<<32 + 1, math.MaxInt} {
		if s, e := sched.New(n); s != nil || e != api.ErrForm {
			t.Errorf("New(%d): %v, %v", n, s, e)
		}
	}
}

// TestWakeTwice: a task that is awake stays so, and is run once.
func TestWakeTwice(t *testing.T) {
	s := made(t, 4, 2, 2, 2, 0, 2)
	wantAll(t, s, 0, 0, 2)
	wantRun(t, s, api.MaxRuns, nothing, 0, 2)
	wantAll(t, s, 0)
	wantWake(t, s, 2, api.OK)
	wantRun(t, s, api.MaxRuns, nothing, 2)
}

func TestWakeWrong(t *testing.T) {
	for n := 1; n <= api.MaxTasks; n++ {
		s := made(t, n, n-1)
		for _, i := range noTasks(n) {
			wantWake(t, s, i, api.ErrForm)
			wantAll(t, s, 0, n-1)
		}
		wantRun(t, s, api.MaxRuns, nothing, n-1)
	}
}

// TestRunMost: no more than most are run, the others stay awake, and run in two parts they come as in one.
func TestRunMost(t *testing.T) {
	all := upTo(api.MaxTasks)
	for most := 0; most <= api.MaxTasks+1; most++ {
		s := made(t, api.MaxTasks, all...)
		part := min(most, api.MaxTasks)
		wantRun(t, s, most, nothing, all[:part]...)
		wantAll(t, s, 0, all[part:]...)
		wantRun(t, s, api.MaxRuns, nothing, all[part:]...)
		wantAll(t, s, 0)
	}
}

// TestRunForever: tasks that wake themselves, or each other, are run till most were.
func TestRunForever(t *testing.T) {
	self := func(task int) ([]int, int) { return []int{task}, 0 }
	other := func(task int) ([]int, int) { return []int{1 - task}, 0 }
	for _, most := range []int{0, 1, 2, 7, api.MaxRuns - 1, api.MaxRuns} {
		s := made(t, 2, 0, 1)
		wantRun(t, s, most, self, make([]int, most)...)
		wantAll(t, s, 0, 0, 1)
		s = made(t, 2, 1)
		turns := make([]int, most)
		for i := range turns {
			turns[i] = 1 - i%2
		}
		wantRun(t, s, most, other, turns...)
		wantAll(t, s, 0, 1-most%2)
	}
}

// TestRunMaxRuns: of so many just as many are run, though none is awake behind them.
func TestRunMaxRuns(t *testing.T) {
	left := api.MaxRuns
	s := made(t, 1, 0)
	wantRun(t, s, api.MaxRuns, func(int) ([]int, int) {
		if left--; left == 0 {
			return nil, 0
		}
		return []int{0}, 0
	}, make([]int, api.MaxRuns)...)
	wantAll(t, s, 0)
}

// TestRunNone: without a task that is awake run is not called.
func TestRunNone(t *testing.T) {
	called := func(task int) ([]int, int) {
		t.Errorf("%d is run", task)
		return nil, 0
	}
	for _, n := range []int{1, 5, api.MaxTasks} {
		s := made(t, n)
		for _, most := range []int{0, 1, api.MaxRuns} {
			wantRun(t, s, most, called)
		}
		wantAll(t, s, 0)
		wantWake(t, s, n-1, api.OK)
		wantRun(t, s, 0, called)
		wantAll(t, s, 0, n-1)
	}
}

// TestRunLeastFirst: which one is the least is asked behind each run anew.
func TestRunLeastFirst(t *testing.T) {
	tests := []struct {
		name  string
		awake []int
		lists [][]int
		want  []int
	}{
		{"woken backwards", []int{5, 3, last, 0}, nil, []int{0, 3, 5, last}},
		{"a lower one", []int{4, 6}, [][]int{{2}}, []int{4, 2, 6}},
		{"a higher one", []int{4, 6}, [][]int{{5}}, []int{4, 5, 6}},
		{"one behind all", []int{4, 6}, [][]int{{last}}, []int{4, 6, last}},
		{"one that is awake", []int{4, 6}, [][]int{{6}}, []int{4, 6}},
		{"one twice", []int{4, 6}, [][]int{{5, 5, 5}}, []int{4, 5, 6}},
		{"itself", []int{4, 6}, [][]int{{4}}, []int{4, 4, 6}},
		{"itself twice", []int{4, 6}, [][]int{{4, 4}}, []int{4, 4, 6}},
		{"itself, and again", []int{4, 6}, [][]int{{4}, {4}}, []int{4, 4, 4, 6}},
		{"itself and a lower one", []int{4, 6}, [][]int{{4, 1}}, []int{4, 1, 4, 6}},
		{"one that was run", []int{1, 2, 3}, [][]int{nil, {1}}, []int{1, 2, 1, 3}},
		{"down and down", []int{3}, [][]int{{2}, {1}, {0}}, []int{3, 2, 1, 0}},
		{"up and up", []int{0}, [][]int{{1}, {2}, {3}}, []int{0, 1, 2, 3}},
		{"many", []int{7}, [][]int{{9, 3, 7, 0}, {}, {8}}, []int{7, 0, 3, 7, 8, 9}},
		{"none", []int{7, 8}, [][]int{{}, nil}, []int{7, 8}},
	}
	for _, test := range tests {
		t.Run(test.name, func(t *testing.T) {
			s := made(t, api.MaxTasks, test.awake...)
			wantRun(t, s, api.MaxRuns, tells(test.lists...), test.want...)
			wantAll(t, s, 0)
			whole := tells(test.lists...)
			s = made(t, api.MaxTasks, test.awake...)
			for _, task := range test.want { // in parts as in one
				wantRun(t, s, 1, whole, task)
			}
			wantAll(t, s, 0)
		})
	}
}

// TestRunGoesOn: what is told with the last run is awake then.
func TestRunGoesOn(t *testing.T) {
	s := made(t, 5, 2, 4)
	wantRun(t, s, 1, tells([]int{2, 0, 3}), 2)
	wantAll(t, s, 0, 0, 2, 3, 4)
	wantRun(t, s, 3, nothing, 0, 2, 3)
	wantAll(t, s, 0, 4)
}

// TestRunTellsNoTasks: they count for nothing, and those beside them count.
func TestRunTellsNoTasks(t *testing.T) {
	for n := 1; n <= api.MaxTasks; n++ {
		s := made(t, n, n-1)
		wantRun(t, s, api.MaxRuns, tells(noTasks(n)), n-1)
		wantAll(t, s, 0)
		wantWake(t, s, n-1, api.OK)
		among := slices.Concat(noTasks(n), []int{0}, noTasks(n), []int{n - 1}, noTasks(n))
		wantRun(t, s, 1, tells(among), n-1)
		wantAll(t, s, 0, slices.Compact([]int{0, n - 1})...)
	}
}

func TestRunWrong(t *testing.T) {
	called := func(task int) ([]int, int) {
		t.Errorf("%d is run", task)
		return []int{0}, 1
	}
	wrong := func(s *sched.Table, most int, run tell) {
		t.Helper()
		if got, e := s.Run(most, run); len(got) > 0 || e != api.ErrForm {
			t.Fatalf("Run(%d): %v, %v", most, got, e)
		}
	}
	s := made(t, 4, 1)
	wantRun(t, s, 1, later(9), 1)
	wantWake(t, s, 3, api.OK)
	for _, most := range []int{-1, -2, -api.MaxRuns, math.MinInt, api.MaxRuns + 1, 2 * api.MaxRuns, 1 << 32, 1<<32 + 1, math.MaxInt} {
		wrong(s, most, called)
		wrong(s, most, nil)
		wantAll(t, s, 0, 3)
	}
	for _, most := range []int{0, 1, 2, api.MaxRuns} {
		wrong(s, most, nil)
		wantAll(t, s, 0, 3)
	}
	wrong(made(t, 1), 1, nil)
	wantTick(t, s, 8, api.OK)
	wantAll(t, s, 8, 3)
	wantTick(t, s, 1, api.OK)
	wantAll(t, s, 9, 1, 3)
}

// TestAgain: just below, at, and above the time, in one go and in parts.
func TestAgain(t *testing.T) {
	for _, again := range []int{1, 2, 7, api.MaxTicks - 1, api.MaxTicks} {
		for part := 0; part < again; part++ {
			s := made(t, 3, 1)
			wantRun(t, s, api.MaxRuns, later(again), 1)
			wantAll(t, s, 0)
			wantTick(t, s, part, api.OK)
			wantAll(t, s, int64(part))
			wantTick(t, s, again-part, api.OK)
			wantAll(t, s, int64(again), 1)
			wantRun(t, s, api.MaxRuns, nothing, 1)
			for range 3 { // a timer wakes once
				wantTick(t, s, api.MaxTicks, api.OK)
				wantAll(t, s, s.Now())
			}
		}
		s := made(t, 3, 1)
		wantRun(t, s, api.MaxRuns, later(again), 1)
		wantTick(t, s, min(again+1, api.MaxTicks), api.OK)
		wantAll(t, s, s.Now(), 1)
	}
}

// TestAgainNone: of 0 and below there is no timer, and one that stands goes on standing.
func TestAgainNone(t *testing.T) {
	for _, again := range []int{0, -1, -5, -api.MaxTicks, -api.MaxClock, math.MinInt} {
		s := made(t, 2, 0)
		wantTick(t, s, 10, api.OK)
		wantRun(t, s, api.MaxRuns, later(again), 0)
		wantTick(t, s, 0, api.OK)
		wantTick(t, s, api.MaxTicks, api.OK)
		wantAll(t, s, 10+api.MaxTicks)
		wantWake(t, s, 0, api.OK)
		wantRun(t, s, api.MaxRuns, later(5), 0)
		wantWake(t, s, 0, api.OK)
		wantRun(t, s, api.MaxRuns, later(again), 0)
		wantTick(t, s, 4, api.OK)
		wantAll(t, s, 14+api.MaxTicks)
		wantTick(t, s, 1, api.OK)
		wantAll(t, s, 15+api.MaxTicks, 0)
	}
}

// TestAgainTooFar: of a time above MaxClock there is no timer, however the sum would wrap round.
func TestAgainTooFar(t *testing.T) {
	for _, again := range []int{api.MaxClock, api.MaxClock + 1, 1 << 62, math.MaxInt - 1, math.MaxInt} {
		s := made(t, 1, 0)
		wantTick(t, s, 1, api.OK)
		wantRun(t, s, 1, later(again), 0)
		for range 4 {
			wantTick(t, s, api.MaxTicks, api.OK)
			wantAll(t, s, s.Now())
		}
		wantWake(t, s, 0, api.OK)
		wantRun(t, s, 1, later(3), 0)
		wantWake(t, s, 0, api.OK)
		wantRun(t, s, 1, later(again), 0) // none is set: the one that stands is as it was
		wantTick(t, s, 3, api.OK)
		wantAll(t, s, s.Now(), 0)
	}
}

// TestAgainAnew: a task has one timer, that of its last run that set one.
func TestAgainAnew(t *testing.T) {
	for _, first := range []int{1, 3, 10, 20} {
		for _, second := range []int{1, 3, 10, 20} {
			for wait := range first {
				s := made(t, 4, 3)
				wantRun(t, s, 1, later(first), 3)
				wantTick(t, s, wait, api.OK)
				wantWake(t, s, 3, api.OK)
				wantRun(t, s, 1, later(second), 3)
				wantTick(t, s, second-1, api.OK)
				wantAll(t, s, int64(wait+second-1))
				wantTick(t, s, 1, api.OK)
				wantAll(t, s, int64(wait+second), 3)
				wantRun(t, s, api.MaxRuns, nothing, 3)
				wantTick(t, s, 100, api.OK)
				wantAll(t, s, int64(wait+second+100))
			}
		}
	}
}

// TestAgainAndItself: it is awake then, and by its timer once more.
func TestAgainAndItself(t *testing.T) {
	s := made(t, 2, 1)
	first := true
	wantRun(t, s, api.MaxRuns, func(task int) ([]int, int) {
		if !first {
			return nil, 0
		}
		first = false
		return []int{task}, 6
	}, 1, 1)
	wantTick(t, s, 5, api.OK)
	wantAll(t, s, 5)
	wantTick(t, s, 1, api.OK)
	wantAll(t, s, 6, 1)
}

// TestAgainFromNow: a timer counts from the time of its run on, not from an earlier one.
func TestAgainFromNow(t *testing.T) {
	s := made(t, 1, 0)
	for round := range int64(5) {
		wantRun(t, s, api.MaxRuns, later(40), 0)
		wantTick(t, s, 39, api.OK)
		wantAll(t, s, 40*round+39)
		wantTick(t, s, 1, api.OK)
		wantAll(t, s, 40*round+40, 0)
	}
}

// TestTimersTogether: each task has a timer of its own; what is due, and what was woken, is awake.
func TestTimersTogether(t *testing.T) {
	s := made(t, api.MaxTasks, upTo(api.MaxTasks)...)
	wantRun(t, s, api.MaxRuns, func(task int) ([]int, int) { return nil, 1 + (last-task)/4 }, upTo(api.MaxTasks)...)
	for now := 1; now <= 4; now++ {
		wantTick(t, s, 1, api.OK)
		wantAll(t, s, int64(now), upTo(api.MaxTasks)[api.MaxTasks-4*now:]...)
	}
	wantRun(t, s, 3, later(2), 0, 1, 2)
	wantWake(t, s, 1, api.OK)
	wantTick(t, s, 5, api.OK)
	wantAll(t, s, 9, upTo(api.MaxTasks)...)
	wantRun(t, s, api.MaxRuns, nothing, upTo(api.MaxTasks)...)
	wantTick(t, s, api.MaxTicks, api.OK)
	wantAll(t, s, 9+api.MaxTicks)
}

// TestTimerOfAwakeTask: it is awake as it was, and run once.
func TestTimerOfAwakeTask(t *testing.T) {
	s := made(t, 2, 1)
	wantRun(t, s, 1, later(3), 1)
	wantWake(t, s, 1, api.OK)
	wantTick(t, s, 3, api.OK)
	wantAll(t, s, 3, 1)
	wantRun(t, s, api.MaxRuns, nothing, 1)
	wantTick(t, s, 50, api.OK)
	wantAll(t, s, 53)
}

func TestTick(t *testing.T) {
	s := made(t, 2, 1)
	now := int64(0)
	for _, n := range []int{0, 1, 0, 2, api.MaxTicks - 1, api.MaxTicks, 0, api.MaxTicks} {
		wantTick(t, s, n, api.OK)
		now += int64(n)
		wantAll(t, s, now, 1)
	}
}

func TestTickWrong(t *testing.T) {
	s := made(t, 3, 2)
	wantTick(t, s, 7, api.OK)
	wantRun(t, s, 1, later(1), 2)
	wantWake(t, s, 0, api.OK)
	for _, n := range []int{-1, -2, -7, -api.MaxTicks, math.MinInt, api.MaxTicks + 1, 2 * api.MaxTicks, api.MaxClock, 1 << 32, 1<<32 + 1, math.MaxInt} {
		wantTick(t, s, n, api.ErrForm)
		wantAll(t, s, 7, 0)
	}
	wantTick(t, s, 1, api.OK)
	wantAll(t, s, 8, 0, 2)
}

// TestRunPanics: a run that panics told nothing, and the call ends as any other.
func TestRunPanics(t *testing.T) {
	for _, why := range []any{"text", errors.New("error"), 0, nil} {
		s := made(t, 4, 1, 2)
		wantRun(t, s, api.MaxRuns, func(task int) ([]int, int) {
			switch task {
			case 1:
				panic(why)
			case 2:
				return []int{3}, 2
			}
			return nil, 2
		}, 1, 2, 3)
		wantAll(t, s, 0)
		wantTick(t, s, 5, api.OK)
		wantAll(t, s, 5, 2, 3)
	}
}

// TestHandedIn: the lists that runs tell are neither changed nor kept.
func TestHandedIn(t *testing.T) {
	room := []int{3, 1, -1, 9, 2, 2}
	list := room[:4]
	s := made(t, 4, 0)
	wantRun(t, s, 1, func(int) ([]int, int) { return list, 0 }, 0)
	if !slices.Equal(room, []int{3, 1, -1, 9, 2, 2}) {
		t.Errorf("%v", room)
	}
	spoil(list)
	wantAll(t, s, 0, 1, 3)
	own := []int{1}
	wantRun(t, s, 4, func(int) ([]int, int) { // one list, written over at each run
		own[0]++
		return own, 0
	}, 1, 2, 3)
}

// spoil writes over a list and over its spare room.
func spoil(list []int) {
	list = list[:cap(list)]
	for i := range list {
		list[i] = 0
	}
}

// TestAnswersApart: who writes into what was told, or appends to it, changes nothing else.
func TestAnswersApart(t *testing.T) {
	s := made(t, 5, 1, 3, 4)
	a, b := s.Awake(), s.Awake()
	spoil(a)
	if !slices.Equal(b, []int{1, 3, 4}) {
		t.Errorf("%v", b)
	}
	first, _ := s.Run(2, nothing)
	second, _ := s.Run(2, nothing)
	spoil(second)
	spoil(b)
	if !slices.Equal(first, []int{1, 3}) {
		t.Errorf("%v", first)
	}
	spoil(first)
	wantAll(t, s, 0)
	wantWake(t, s, 2, api.OK)
	wantAll(t, s, 0, 2)
}

func TestTablesApart(t *testing.T) {
	a, b := made(t, 3, 0, 2), made(t, 3, 1)
	wantRun(t, a, 1, later(4), 0)
	wantTick(t, b, 9, api.OK)
	wantAll(t, a, 0, 2)
	wantAll(t, b, 9, 1)
	wantRun(t, b, api.MaxRuns, later(1), 1)
	wantTick(t, a, 4, api.OK)
	wantAll(t, a, 4, 0, 2)
	wantAll(t, b, 9)
}

// TestUnmade: a table that New has not made has no tasks, and calls of it end.
func TestUnmade(t *testing.T) {
	var s sched.Table
	wantWake(t, &s, 0, api.ErrForm)
	wantRun(t, &s, api.MaxRuns, nothing)
	wantTick(t, &s, 5, api.OK)
	wantAll(t, &s, 5)
}

// held is a table beside what the document says of it.
type held struct {
	s      *sched.Table
	awake  []bool
	timers map[int]int64
	now    int64
}

func hold(t *testing.T, n int) *held {
	t.Helper()
	return &held{made(t, n), make([]bool, n), map[int]int64{}, 0}
}

// wake tells whether i is a task.
func (h *held) wake(i int) bool {
	if i < 0 || i >= len(h.awake) {
		return false
	}
	h.awake[i] = true
	return true
}

func (h *held) tick(t *testing.T, n int) {
	t.Helper()
	wantTick(t, h.s, n, api.OK)
	h.now += int64(n)
	for i := range h.awake {
		if at, set := h.timers[i]; set && at <= h.now {
			delete(h.timers, i)
			h.awake[i] = true
		}
	}
}

// run holds each call of the run against the least one that is awake.
func (h *held) run(t *testing.T, most int, run tell) {
	t.Helper()
	var want []int
	got, e := h.s.Run(most, func(task int) ([]int, int) {
		if least := slices.Index(h.awake, true); task != least {
			t.Fatalf("%d is run; want %d", task, least)
		}
		want = append(want, task)
		h.awake[task] = false
		wake, again := run(task)
		for _, i := range wake {
			h.wake(i)
		}
		if again > 0 && again <= api.MaxClock-int(h.now) {
			h.timers[task] = h.now + int64(again)
		}
		return wake, again
	})
	if e != api.OK || !slices.Equal(got, want) {
		t.Fatalf("Run(%d): %v, %v; want %v", most, got, e, want)
	}
	if len(want) > most || len(want) < most && slices.Contains(h.awake, true) {
		t.Fatalf("Run(%d): %d were run, left awake: %v", most, len(want), h.awake)
	}
}

func (h *held) look(t *testing.T) {
	t.Helper()
	var awake []int
	for i, is := range h.awake {
		if is {
			awake = append(awake, i)
		}
	}
	wantAll(t, h.s, h.now, awake...)
}

// anyTells is a run that tells some tasks, some numbers that are none, and now and then a time.
func anyTells(rnd *rand.Rand, n, span int) tell {
	return func(int) ([]int, int) {
		wake := make([]int, rnd.Intn(3))
		for i := range wake {
			wake[i] = rnd.Intn(n+3) - 1
		}
		switch rnd.Intn(6) {
		case 0:
			return wake, -rnd.Intn(5)
		case 1:
			return wake, math.MaxInt - rnd.Intn(5)
		case 2:
			return nil, rnd.Intn(span)
		default:
			return wake[:len(wake)/2], rnd.Intn(span)
		}
	}
}

// TestWalks does steps to tables of any size, and to what the document says of them.
func TestWalks(t *testing.T) {
	for seed := range int64(96) {
		rnd := rand.New(rand.NewSource(seed))
		n, span := 1+int(seed)%api.MaxTasks, 1+rnd.Intn(30)
		h := hold(t, n)
		for range 400 {
			switch rnd.Intn(8) {
			case 0, 1:
				i, want := rnd.Intn(n+2)-1, api.ErrForm
				if h.wake(i) {
					want = api.OK
				}
				wantWake(t, h.s, i, want)
			case 2, 3, 4:
				h.tick(t, rnd.Intn(span))
			case 5:
				h.run(t, api.MaxRuns, anyTells(rnd, n, span))
			default:
				h.run(t, rnd.Intn(2*n), anyTells(rnd, n, span))
			}
			h.look(t)
		}
	}
}

// TestTicksInParts: whoever ticks in parts finds the same tasks awake as whoever ticks in one go.
func TestTicksInParts(t *testing.T) {
	for seed := range int64(40) {
		rnd := rand.New(rand.NewSource(seed))
		times := make([]int, api.MaxTasks)
		for i := range times {
			times[i] = rnd.Intn(30)
		}
		begin := func() *sched.Table {
			s := made(t, api.MaxTasks, upTo(api.MaxTasks)...)
			wantRun(t, s, api.MaxRuns, func(task int) ([]int, int) { return nil, times[task] }, upTo(api.MaxTasks)...)
			return s
		}
		for whole := 0; whole <= 30; whole++ {
			var due []int
			for i, at := range times {
				if at > 0 && at <= whole {
					due = append(due, i)
				}
			}
			one, two, each := begin(), begin(), begin()
			wantTick(t, one, whole, api.OK)
			wantAll(t, one, int64(whole), due...)
			part := rnd.Intn(whole + 1)
			wantTick(t, two, part, api.OK)
			wantTick(t, two, whole-part, api.OK)
			wantAll(t, two, int64(whole), due...)
			for range whole {
				wantTick(t, each, 1, api.OK)
			}
			wantAll(t, each, int64(whole), due...)
		}
	}
}

// TestNothingAwakes: a task that nothing awakes is not run, whatever the others do.
func TestNothingAwakes(t *testing.T) {
	for lone := range api.MaxTasks {
		s := made(t, api.MaxTasks)
		rnd := rand.New(rand.NewSource(int64(lone)))
		for range 100 {
			if i := rnd.Intn(api.MaxTasks); i != lone {
				wantWake(t, s, i, api.OK)
			}
			s.Run(rnd.Intn(20), func(task int) ([]int, int) {
				if task == lone {
					t.Fatalf("%d is run", lone)
				}
				wake := rnd.Intn(api.MaxTasks)
				if wake == lone {
					wake = -1
				}
				return []int{wake}, rnd.Intn(9)
			})
			wantTick(t, s, rnd.Intn(5), api.OK)
		}
	}
}
