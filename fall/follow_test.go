package fall_test

import (
	"math/rand"
	"testing"

	"gimbal/api"
)

// sample is a magnitude, and when it comes.
type sample struct{ m, now int64 }

// someMagnitude is often near a limit, now and then far away.
func someMagnitude(source *rand.Rand) int64 {
	switch source.Intn(6) {
	case 0:
		return upper + source.Int63n(7) - 3
	case 1:
		return lower + source.Int63n(7) - 3
	case 2:
		return source.Int63n(top + 1)
	case 3:
		return lower + source.Int63n(upper-lower)
	}
	return source.Int63n(lower)
}

// someWalk is samples that are mostly weightless, and held now and then.
func someWalk(source *rand.Rand) []sample {
	now, longest := source.Int63n(1000), 1+source.Int63n(120)
	often := 1 + source.Intn(12)
	list := make([]sample, 500)
	for i := range list {
		m := source.Int63n(upper)
		if source.Intn(often) == 0 {
			m = someMagnitude(source)
		}
		list[i] = sample{m, now}
		now += source.Int63n(longest)
	}
	return list
}

// wantTold tells of a walk at which samples a fall must be told, by the whole list: it is cut at each one that is held, and in each piece the first weightless one is told that comes 100 ticks behind the piece's first weightless one.
func wantTold(list []sample) []bool {
	told := make([]bool, len(list))
	for from := 0; from < len(list); {
		end := from
		for end < len(list) && !isHeld(list[end].m) {
			end++
		}
		if at, there := toldOf(list[from:end]); there {
			told[from+at] = true
		}
		from = end + 1
	}
	return told
}

// toldOf is the place of the sample that is told in a piece.
func toldOf(piece []sample) (at int, there bool) {
	first := -1
	for i, x := range piece {
		if !isWeightless(x.m) {
			continue
		}
		if first < 0 {
			first = i
		}
		if x.now-piece[first].now >= 100 {
			return i, true
		}
	}
	return 0, false
}

// P20.1, P20.2: whole walks: a fall is told once, and again only behind a magnitude above the upper limit.
func TestWalks(t *testing.T) {
	count := 0
	for seed := range int64(300) {
		list := someWalk(rand.New(rand.NewSource(2000 + seed)))
		told, f, held := wantTold(list), high, true
		for i, x := range list {
			got := taken(f, x.m, x.now)
			if want := wantTake(f, x.m, x.now); got != want {
				t.Fatalf("Take(%+v, %d, %d): %+v, not %+v", f, x.m, x.now, got, want)
			}
			if got.told != told[i] || got.e != api.OK {
				t.Fatalf("seed %d, sample %d: %+v, not %v", seed, i, got, told[i])
			}
			held = held || isHeld(x.m)
			if got.told {
				if !held {
					t.Fatalf("seed %d, sample %d: told twice, never held between", seed, i)
				}
				held = false
				count++
			}
			f = got.f
		}
	}
	if count < 1000 {
		t.Errorf("told only %d times", count)
	}
}

// P20.2: what stays weightless, or comes up to the upper limit and no further, is told once.
func TestOnce(t *testing.T) {
	source := rand.New(rand.NewSource(2002))
	for range 200 {
		f, now, told, first := high, source.Int63n(1<<39), 0, int64(-1)
		began := now
		for range 500 {
			m := source.Int63n(lower)
			if source.Intn(4) == 0 && now > began {
				m = lower + source.Int63n(upper-lower+1)
			}
			got := taken(f, m, now)
			if got.e != api.OK || got.told && now < began+100 {
				t.Fatalf("Take(%+v, %d, %d): %+v", f, m, now, got)
			}
			if got.told {
				told++
				first = now
			}
			f = got.f
			now += source.Int63n(20)
		}
		if told != 1 || f != fallen(began) {
			t.Errorf("told %d times, at %d, behind %d: %+v", told, first, began, f)
		}
	}
}

// P20.2: behind a magnitude above the upper limit it is told again, each time.
func TestAgain(t *testing.T) {
	f := high
	for i := range int64(500) {
		now := 300 * i
		f = checkRun(t, f, []part{
			{0, now, quiet(low(now))},
			{lower - 1, now + 100, tells(now)},
			{0, now + 200, quiet(fallen(now))},
			{upper, now + 210, quiet(fallen(now))},
			{0, now + 220, quiet(fallen(now))},
			{upper + 1, now + 220, quiet(high)},
		})
	}
}

// P20.2: what is not weightless tells nothing, however long; so does what trembles about the upper limit.
func TestNoFalls(t *testing.T) {
	for _, m := range []int64{lower, lower + 1, mid, upper, upper + 1, g, top} {
		for now := int64(0); now < 50000; now += 50 {
			check(t, []row{{"steady", high, m, now, quiet(high)}})
		}
	}
	for i := range int64(1000) {
		check(t, []row{{"trembling", high, upper + i%5 - 2, 300 * i, quiet(high)}})
	}
}

// someTime is mostly a time, near its ends as well.
func someTime(source *rand.Rand) int64 {
	switch source.Intn(5) {
	case 0:
		return source.Int63n(5) - 1
	case 1:
		return clock + source.Int63n(5) - 3
	case 2:
		return source.Int63n(300)
	}
	return source.Int63n(clock)
}

// P20.1: any states, magnitudes and times, good ones and wrong ones.
func TestAtRandom(t *testing.T) {
	source := rand.New(rand.NewSource(2001))
	seen := map[answer]int{}
	for range 300000 {
		f := api.Fall{Low: source.Intn(10) > 0, Told: source.Intn(2) == 0, Since: someTime(source)}
		if source.Intn(6) == 0 {
			f = high
		}
		m, now := someMagnitude(source), someTime(source)
		if source.Intn(3) > 0 {
			now = f.Since + source.Int63n(204) - 2
		}
		if source.Intn(20) == 0 {
			m -= 1 << source.Intn(46)
		}
		got, want := taken(f, m, now), wantTake(f, m, now)
		if got != want {
			t.Fatalf("Take(%+v, %d, %d): %+v, not %+v", f, m, now, got, want)
		}
		want.f.Since = 0
		seen[want]++
	}
	for _, kind := range []answer{bad(api.ErrForm), quiet(high), quiet(low(0)), quiet(fallen(0)), tells(0)} {
		if seen[kind] < 1000 {
			t.Errorf("%+v only %d times", kind, seen[kind])
		}
	}
}
