package step_test

import (
	"math/rand"
	"testing"

	"gimbal/api"
)

// someMagnitude is one of a walk: often near a side, now and then far away.
func someMagnitude(source *rand.Rand) int64 {
	switch source.Intn(6) {
	case 0:
		return upper + source.Int63n(7) - 3
	case 1:
		return lower + source.Int63n(7) - 3
	case 2:
		return source.Int63n(top + 1)
	case 3:
		return source.Int63n(lower)
	}
	return 8000000 + source.Int63n(4500000)
}

// P17.2: each step needs a rise and a fall: between two that are told there is a magnitude above the upper side, and each is told at one below the lower side; two are at least 250 apart.
func TestWalks(t *testing.T) {
	for seed := range int64(200) {
		source := rand.New(rand.NewSource(1700 + seed))
		s, now, rose, steps := api.Step{}, source.Int63n(1000), false, int64(0)
		longest := 1 + source.Int63n(300)
		for range 500 {
			m := someMagnitude(source)
			got := taken(s, m, now)
			if want := wantTake(s, m, now); got != want {
				t.Fatalf("Take(%+v, %d, %d): %+v, not %+v", s, m, now, got, want)
			}
			rose = rose || m > upper
			if got.told {
				steps++
				if !rose || m >= lower || steps > 1 && now-s.Last < 250 || got != tells(now, steps) {
					t.Fatalf("step %d at %d by %d, behind %+v: %+v; it rose: %v", steps, now, m, s, got, rose)
				}
				rose = false
			}
			s = got.s
			now += source.Int63n(longest)
		}
		if s.Count != steps {
			t.Errorf("%d steps were told, %d counted", steps, s.Count)
		}
	}
}

// P17.2: a fall alone, and a rise alone, tell none, however often they come.
func TestHalvesOfSteps(t *testing.T) {
	for _, m := range []int64{0, 1, low, lower - 1, lower, g, upper, upper + 1, high, top} {
		s := api.Step{}
		for now := int64(0); now < 100000; now += 250 {
			got := taken(s, m, now)
			want := quiet(api.Step{Up: m > upper})
			if got != want {
				t.Fatalf("%d, steady, at %d: %+v", m, now, got)
			}
			s = got.s
		}
	}
}

// P17.2: a steady magnitude tells none, from any state that is not up; from one that is up it falls at most once.
func TestSteady(t *testing.T) {
	source := rand.New(rand.NewSource(1702))
	for range 500 {
		m, last, count := someMagnitude(source), source.Int63n(1<<39), source.Int63n(1<<39)
		for _, s := range []api.Step{down(last, count), up(last, count)} {
			told, now := 0, s.Last
			wasUp := s.Up
			for range 50 {
				got := taken(s, m, now)
				if got.e != api.OK {
					t.Fatalf("Take(%+v, %d, %d): %+v", s, m, now, got)
				}
				if got.told {
					told++
				}
				s = got.s
				now += source.Int63n(400)
			}
			if told > 1 || told == 1 && !wasUp {
				t.Errorf("%d, steady: told %d times, up at first: %v", m, told, wasUp)
			}
		}
	}
}

// P17.2: trembling about one side, with the other one never crossed, tells none.
func TestTrembling(t *testing.T) {
	for _, side := range []int64{upper, lower, g} {
		s := api.Step{}
		for i := range int64(1000) {
			got := taken(s, side+i%5-2, 300*i)
			if got.told || got.e != api.OK {
				t.Fatalf("about %d: %+v", side, got)
			}
			s = got.s
		}
	}
}

// P17.1: any states, magnitudes and times, good ones and wrong ones.
func TestAtRandom(t *testing.T) {
	source := rand.New(rand.NewSource(1701))
	for range 200000 {
		s := api.Step{Up: source.Intn(2) == 0, Last: someTime(source), Count: someTime(source)}
		m, now := someMagnitude(source), someTime(source)
		if source.Intn(3) > 0 {
			now = s.Last + source.Int63n(502)
		}
		if source.Intn(20) == 0 {
			m -= 1 << source.Intn(46)
		}
		if got, want := taken(s, m, now), wantTake(s, m, now); got != want {
			t.Fatalf("Take(%+v, %d, %d): %+v, not %+v", s, m, now, got, want)
		}
	}
}

// someTime is mostly a time, near its ends as well.
func someTime(source *rand.Rand) int64 {
	switch source.Intn(5) {
	case 0:
		return source.Int63n(5) - 1
	case 1:
		return clock + source.Int63n(5) - 3
	case 2:
		return source.Int63n(600)
	}
	return source.Int63n(clock)
}
