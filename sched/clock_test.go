package sched

import (
	"math"
	"slices"
	"testing"

	"gimbal/api"
)

// at is a table of three tasks at that time, which calls alone would reach only behind very many ticks; those are awake.
func at(t *testing.T, now int64, awake ...int) *Table {
	t.Helper()
	s, e := New(3)
	if e != api.OK {
		t.Fatal(e)
	}
	s.now = now
	for _, i := range awake {
		s.Wake(i)
	}
	return s
}

func wantTick(t *testing.T, s *Table, n int, want api.Errno) {
	t.Helper()
	if got := s.Tick(n); got != want {
		t.Fatalf("Tick(%d) at %d: %v; want %v", n, s.now, got, want)
	}
}

// wantAll holds the table against what is wanted, its timers too.
func wantAll(t *testing.T, s *Table, now int64, timers []api.Timer, awake ...int) {
	t.Helper()
	if s.Now() != now || !slices.Equal(s.Awake(), awake) {
		t.Fatalf("at %d awake are %v; want at %d %v", s.Now(), s.Awake(), now, awake)
	}
	if got := s.timers.All(); !slices.Equal(got, timers) {
		t.Fatalf("at %d: %v; want %v", now, got, timers)
	}
}

// again runs the first task that is awake, which wants to wake so much later.
func again(s *Table, n int) {
	s.Run(1, func(int) ([]int, int) { return nil, n })
}

// TestTickToTheEnd: to just MaxClock, and no further; with an error nothing has changed.
func TestTickToTheEnd(t *testing.T) {
	for _, left := range []int{0, 1, 2, 500, api.MaxTicks - 1, api.MaxTicks} {
		s := at(t, api.MaxClock-int64(left), 1)
		for _, n := range []int{left + 1, left + 2, api.MaxTicks + 1, math.MaxInt} {
			wantTick(t, s, n, api.ErrForm)
			wantAll(t, s, api.MaxClock-int64(left), nil, 1)
		}
		wantTick(t, s, left, api.OK)
		wantAll(t, s, api.MaxClock, nil, 1)
		wantTick(t, s, 0, api.OK)
		for _, n := range []int{1, 2, api.MaxTicks, -1} {
			wantTick(t, s, n, api.ErrForm)
		}
		wantAll(t, s, api.MaxClock, nil, 1)
	}
}

// TestTickAboveTakesNone: a tick that is refused wakes nobody, though a timer is due ahead of its time.
func TestTickAboveTakesNone(t *testing.T) {
	s := at(t, api.MaxClock-10, 0)
	again(s, 4)
	timers := []api.Timer{{ID: 0, At: api.MaxClock - 6}}
	for _, n := range []int{11, api.MaxTicks, api.MaxTicks + 1, -1} {
		wantTick(t, s, n, api.ErrForm)
		wantAll(t, s, api.MaxClock-10, timers)
	}
	wantTick(t, s, 10, api.OK)
	wantAll(t, s, api.MaxClock, nil, 0)
}

// TestAgainToTheEnd: to just MaxClock there is a timer, and it wakes its task; just above there is none.
func TestAgainToTheEnd(t *testing.T) {
	for _, left := range []int{1, 2, 500, api.MaxTicks} {
		now := api.MaxClock - int64(left)
		s := at(t, now, 0, 1, 2)
		again(s, left+1)
		again(s, left)
		again(s, math.MaxInt)
		wantAll(t, s, now, []api.Timer{{ID: 1, At: api.MaxClock}})
		wantTick(t, s, left-1, api.OK)
		wantAll(t, s, api.MaxClock-1, []api.Timer{{ID: 1, At: api.MaxClock}})
		wantTick(t, s, 1, api.OK)
		wantAll(t, s, api.MaxClock, nil, 1)
	}
}

// TestAgainAtTheEnd: at MaxClock nothing can wake again.
func TestAgainAtTheEnd(t *testing.T) {
	for _, n := range []int{0, 1, 2, api.MaxTicks, api.MaxClock, math.MaxInt} {
		s := at(t, api.MaxClock, 2)
		again(s, n)
		wantAll(t, s, api.MaxClock, nil)
		wantTick(t, s, 0, api.OK)
		wantAll(t, s, api.MaxClock, nil)
	}
}

// TestAgainFar: far from the end too the time counts, not how far it is off.
func TestAgainFar(t *testing.T) {
	for _, now := range []int64{0, 1, api.MaxClock / 2, api.MaxClock - 1} {
		left := int(api.MaxClock - now)
		s := at(t, now, 0, 1, 2)
		again(s, left)
		again(s, left+1)
		again(s, left-1)
		want := []api.Timer{{ID: 2, At: api.MaxClock - 1}, {ID: 0, At: api.MaxClock}}
		if left == 1 {
			want = want[1:] // 0 ticks later is no timer
		}
		wantAll(t, s, now, want)
	}
}

// TestAgainAboveKeeps: where none is set, the timer that stands is as it was.
func TestAgainAboveKeeps(t *testing.T) {
	s := at(t, api.MaxClock-20, 1)
	again(s, 15)
	s.Wake(1)
	again(s, 21)
	wantAll(t, s, api.MaxClock-20, []api.Timer{{ID: 1, At: api.MaxClock - 5}})
	s.Wake(1)
	again(s, 20)
	wantAll(t, s, api.MaxClock-20, []api.Timer{{ID: 1, At: api.MaxClock}})
}

// TestOneEventEach: a channel that had no room, or room for two, would lose an event or keep one too many.
func TestOneEventEach(t *testing.T) {
	s := at(t, 0, 0, 0, 2)
	for i, want := range []int{1, 0, 1} {
		if len(s.wakes[i]) != want || cap(s.wakes[i]) != 1 {
			t.Errorf("%d: %d of %d", i, len(s.wakes[i]), cap(s.wakes[i]))
		}
	}
}
