package tilt_test

import (
	"math/rand"
	"testing"

	"gimbal/api"
)

// sample is a vector, and when it comes.
type sample struct {
	u   api.Vec
	now int64
}

// directions are units that stand far from each other.
func directions() []api.Vec {
	return []api.Vec{up, below, north, v3(0, -one, 0), east, v3(-one, 0, 0)}
}

// trembling is a direction that is a little off: near it, and far from the other ones.
func trembling(source *rand.Rand, d api.Vec) api.Vec {
	off := func() int64 { return source.Int63n(1<<27) - 1<<26 }
	return v3(d.X+off(), d.Y+off(), d.Z+off())
}

// someWalk is samples that stay about a direction for longer or shorter, and then turn to another one.
func someWalk(source *rand.Rand) []sample {
	all := directions()
	d, now, longest := all[source.Intn(len(all))], source.Int63n(1000), 1+source.Int63n(900)
	list := make([]sample, 500)
	for i := range list {
		if source.Intn(8) == 0 {
			d = all[source.Intn(len(all))]
		}
		list[i] = sample{trembling(source, d), now}
		now += source.Int63n(longest)
	}
	return list
}

// wantTold tells of a walk at which samples a tilt must be told, by the whole list: from each one that is held on to, those behind it that are away in a row, till they are so for long.
func wantTold(list []sample) []bool {
	told := make([]bool, len(list))
	ref, first := 0, -1 // first: where those began that are away; -1: the last one was near
	for i := range list {
		switch {
		case isNear(list[ref].u, list[i].u):
			first = -1
		case first < 0:
			first = i
		case list[i].now >= list[first].now+2000:
			told[i], ref, first = true, i, -1
		}
	}
	return told
}

// P19.1, P19.2: whole walks, from the first sample on; two are told at least 2000 apart.
func TestWalks(t *testing.T) {
	count := 0
	for seed := range int64(300) {
		list := someWalk(rand.New(rand.NewSource(1900 + seed)))
		told, s, last := wantTold(list), api.Tilt{}, int64(-1)
		for i, x := range list {
			got := taken(s, x.u, x.now)
			if want := wantTake(s, x.u, x.now); got != want {
				t.Fatalf("Take(%+v, %v, %d): %+v, not %+v", s, x.u, x.now, got, want)
			}
			if got.told != told[i] || got.e != api.OK {
				t.Fatalf("seed %d, sample %d: %+v, not %v", seed, i, got, told[i])
			}
			if got.told {
				if last >= 0 && x.now-last < 2000 {
					t.Fatalf("seed %d, sample %d: told at %d and at %d", seed, i, last, x.now)
				}
				last = x.now
				count++
			}
			s = got.s
		}
	}
	if count < 1000 {
		t.Errorf("told only %d times", count)
	}
}

// P19.2: what stays near Ref tells nothing, however long, and Ref stays.
func TestStaysNear(t *testing.T) {
	source := rand.New(rand.NewSource(1902))
	for _, d := range directions() {
		s, now := near(d), int64(0)
		for range 2000 {
			got := taken(s, trembling(source, d), now)
			if got != quiet(near(d)) {
				t.Fatalf("about %v, at %d: %+v", d, now, got)
			}
			s = got.s
			now += source.Int63n(5000)
		}
	}
}

// P19.2: what stays away tells once: behind it, it is near.
func TestStaysAway(t *testing.T) {
	source := rand.New(rand.NewSource(1903))
	for _, from := range directions() {
		for _, to := range directions() {
			s, now, told, first := near(from), int64(7), 0, int64(-1)
			for range 500 {
				got := taken(s, trembling(source, to), now)
				if got.e != api.OK || got.told && now < 2007 {
					t.Fatalf("from %v to %v, at %d: %+v", from, to, now, got)
				}
				if got.told {
					told++
					first = now
				}
				s = got.s
				now += source.Int63n(100)
			}
			if from == to && told != 0 || from != to && told != 1 || first >= 2107 {
				t.Errorf("from %v to %v: told %d times, at %d", from, to, told, first)
			}
		}
	}
}

// P19.2: what goes there and back, never away for 2000 ticks, tells nothing.
func TestThereAndBack(t *testing.T) {
	s := near(up)
	for i := range int64(500) {
		now := 3000 * i
		s = checkRun(t, s, []part{
			{north, now, quiet(away(up, now))},
			{below, now + 1999, quiet(away(up, now))},
			{up, now + 1999, quiet(near(up))},
			{up, now + 2500, quiet(near(up))},
		})
	}
}

// P19.2: vectors that are so short that they are away from themselves: as P19.1 says, each of them tells when it has been away for 2000 ticks.
func TestShort(t *testing.T) {
	for _, u := range []api.Vec{{}, v3(1, 2, 3), leaning(971811713)} { // the last one's square is just below the limit
		s := near(u)
		for i := range int64(5) {
			s = checkRun(t, s, []part{
				{u, 3000 * i, quiet(away(u, 3000*i))},
				{u, 3000*i + 1999, quiet(away(u, 3000*i))},
				{u, 3000*i + 2000, tells(u)},
			})
		}
	}
}

// someTime is mostly a time, near its ends as well.
func someTime(source *rand.Rand) int64 {
	switch source.Intn(5) {
	case 0:
		return source.Int63n(5) - 1
	case 1:
		return clock + source.Int63n(5) - 3
	case 2:
		return source.Int63n(4000)
	}
	return source.Int63n(clock)
}

// someNumber is mostly one of a vector: small, about a unit or the limit, or about the ends.
func someNumber(source *rand.Rand) int64 {
	sign := 1 - 2*source.Int63n(2)
	switch source.Intn(6) {
	case 0:
		return sign * (one + source.Int63n(5) - 2)
	case 1:
		return sign * (limit + source.Int63n(5) - 2)
	case 2:
		return sign * source.Int63n(two+1)
	case 3:
		return sign * (two - source.Int63n(60) + 1)
	}
	return sign * source.Int63n(4000)
}

// P19.1: any states, vectors and times, good ones and wrong ones.
func TestAtRandom(t *testing.T) {
	source := rand.New(rand.NewSource(1901))
	seen := map[answer]int{}
	for range 300000 {
		some := func() api.Vec { return v3(someNumber(source), someNumber(source), someNumber(source)) }
		s, u := away(some(), someTime(source)), some()
		switch source.Intn(20) {
		case 0:
			s.On = false
		case 1:
			s = api.Tilt{}
		case 2:
			s.Away = false
		case 3, 4, 5, 6, 7:
			s = near(s.Ref)
		}
		now := someTime(source)
		if source.Intn(3) > 0 {
			now = s.Since + source.Int63n(2102) - 2
		}
		got, want := taken(s, u, now), wantTake(s, u, now)
		if got != want {
			t.Fatalf("Take(%+v, %v, %d): %+v, not %+v", s, u, now, got, want)
		}
		seen[answer{s: api.Tilt{On: want.s.On, Away: want.s.Away}, told: want.told, e: want.e}]++
	}
	for _, kind := range []answer{bad(api.ErrForm), quiet(near(api.Vec{})), quiet(away(api.Vec{}, 0)), tells(api.Vec{})} {
		if seen[kind] < 1000 {
			t.Errorf("%+v only %d times", kind, seen[kind])
		}
	}
}
