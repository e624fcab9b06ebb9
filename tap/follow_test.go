package tap_test

import (
	"math/rand"
	"testing"

	"gimbal/api"
)

// sample is a vector, and when it comes.
type sample struct {
	v   api.Vec
	now int64
}

// someWalk is samples that leap now and then, often by about Gravity, and stay for longer or shorter.
func someWalk(source *rand.Rand) []sample {
	v, now, longest := vx(0), source.Int63n(1000), 1+source.Int63n(100)
	list := make([]sample, 500)
	for i := range list {
		switch source.Intn(6) {
		case 0:
			v = vx(g*(source.Int63n(5)-2) + source.Int63n(5))
		case 1:
			v = v3(v.X+g+source.Int63n(3)-1, v.Y, v.Z)
		case 2:
			v = v3(v.X, v.Y, v.Z-g-source.Int63n(3)+1)
		case 3:
			v = v3(source.Int63n(4*g)-2*g, source.Int63n(4*g)-2*g, source.Int63n(4*g)-2*g)
		}
		list[i] = sample{v, now}
		now += source.Int63n(longest)
	}
	return list
}

// wantKinds tells of a walk what each sample must tell, by the whole list: a jerk is a run of samples that are each far from the one ahead, and it ends at the next one.
func wantKinds(list []sample) []int {
	kinds := make([]int, len(list))
	lastTap := -1 // the index of the last single tap that is no part of a double one
	for i := 1; i < len(list); {
		begin := i
		for i < len(list) && isFarther(list[i-1].v, list[i].v, g) {
			i++
		}
		if i > begin && i < len(list) && list[i].now-list[begin].now <= 60 {
			kinds[i] = 1
			if lastTap >= 0 && list[i].now-list[lastTap].now <= 300 {
				kinds[i], lastTap = 2, -1
			} else {
				lastTap = i
			}
		}
		i++
	}
	return kinds
}

// P18.1, P18.2: whole walks, from the first sample on; a double tap is told at most once for each single one, and behind it.
func TestWalks(t *testing.T) {
	var seen [3]int
	for seed := range int64(200) {
		list := someWalk(rand.New(rand.NewSource(1800 + seed)))
		kinds := wantKinds(list)
		s, singles, doubles := api.Tap{}, 0, 0
		for i, x := range list {
			got := taken(s, x.v, x.now)
			if want := wantTake(s, x.v, x.now); got != want {
				t.Fatalf("Take(%+v, %v, %d): %+v, not %+v", s, x.v, x.now, got, want)
			}
			if got.kind != kinds[i] || got.e != api.OK {
				t.Fatalf("seed %d, sample %d: %+v, not kind %d", seed, i, got, kinds[i])
			}
			switch got.kind {
			case 1:
				singles++
			case 2:
				doubles++
			}
			if doubles > singles {
				t.Fatalf("seed %d, sample %d: %d double taps, %d single ones", seed, i, doubles, singles)
			}
			seen[got.kind]++
			s = got.t
		}
	}
	if seen[1] < 1000 || seen[2] < 1000 {
		t.Errorf("of each kind: %v", seen)
	}
}

// P18.2: from any state, between two double taps there is a single one.
func TestBetweenDoubles(t *testing.T) {
	source := rand.New(rand.NewSource(1899))
	for range 300 {
		list := someWalk(source)
		s := api.Tap{On: true, Last: list[0].v, Since: source.Int63n(list[0].now + 2), Prev: source.Int63n(list[0].now + 2)}
		free := s.Prev != 0
		for i, x := range list {
			got := taken(s, x.v, x.now)
			if got.e != api.OK || got.kind == 2 && !free {
				t.Fatalf("sample %d, behind %+v: %+v; a single tap ahead: %v", i, s, got, free)
			}
			if got.kind != 0 {
				free = got.kind == 1
			}
			s = got.t
		}
	}
}

// P18.2: a steady vector tells nothing, whenever it comes, and however great it is.
func TestSteady(t *testing.T) {
	for _, v := range []api.Vec{vx(0), vx(1), v3(0, 0, g), v3(g, -2*g, 3*g), v3(top, top, top), v3(-top, -top, -top)} {
		for _, prev := range []int64{0, 1, 900, 1000} {
			s := api.Tap{}
			if prev != 0 {
				s = resting(v, prev)
			}
			for now := int64(999); now < 3000; now += 7 {
				got := taken(s, v, now)
				if got != quiet(resting(v, prev)) {
					t.Fatalf("%v, steady, at %d: %+v", v, now, got)
				}
				s = got.t
			}
		}
	}
}

// P18.2: a steady vector that ends a jerk tells of that jerk, and then nothing more.
func TestSteadyBehindJerk(t *testing.T) {
	source := rand.New(rand.NewSource(1802))
	for range 500 {
		v, now := v3(source.Int63n(top), -source.Int63n(top), source.Int63n(top)), 1000+source.Int63n(200)
		s := jerking(v, 900+source.Int63n(100), source.Int63n(1000))
		for i := range 30 {
			got := taken(s, v, now)
			if got.e != api.OK || got.t.Since != 0 || i > 0 && got.kind != 0 {
				t.Fatalf("%d: Take(%+v, %v, %d): %+v", i, s, v, now, got)
			}
			s = got.t
			now += source.Int63n(100)
		}
	}
}

// P18.2: vectors that go by little steps tell nothing, however far they get.
func TestLittleSteps(t *testing.T) {
	source := rand.New(rand.NewSource(1803))
	for _, step := range []int64{1, 1000, g / 2, g - 1, g} {
		s, v := api.Tap{}, v3(0, 0, g)
		for i := range int64(2000) {
			switch source.Intn(4) {
			case 0:
				v.X += step
			case 1:
				v.Y += step
			case 2:
				v.Z -= step
			}
			got := taken(s, v, 5*i)
			if got != quiet(resting(v, 0)) {
				t.Fatalf("by steps of %d, at %d: %+v", step, 5*i, got)
			}
			s = got.t
		}
	}
}

// someMark is mostly a time and 1, or none; near the ends as well.
func someMark(source *rand.Rand) int64 {
	switch source.Intn(6) {
	case 0:
		return source.Int63n(5) - 1
	case 1:
		return clock + source.Int63n(6) - 3
	case 2, 3:
		return source.Int63n(600)
	case 4:
		return 0
	}
	return source.Int63n(clock)
}

// someNumber is mostly a word: small, about Gravity, or about the ends.
func someNumber(source *rand.Rand) int64 {
	sign := 1 - 2*source.Int63n(2)
	switch source.Intn(6) {
	case 0:
		return sign * (g + source.Int63n(5) - 2)
	case 1:
		return sign * source.Int63n(top+1)
	case 2:
		return sign * source.Int63n(2*g)
	case 3:
		return sign * (top - source.Int63n(40) + 1)
	}
	return sign * source.Int63n(4000)
}

// P18.1: any states, vectors and times, good ones and wrong ones.
func TestAtRandom(t *testing.T) {
	source := rand.New(rand.NewSource(1801))
	seen := map[api.Errno]int{}
	for range 300000 {
		some := func() api.Vec { return v3(someNumber(source), someNumber(source), someNumber(source)) }
		s, v := jerking(some(), someMark(source), someMark(source)), some()
		if source.Intn(3) > 0 {
			v = v3(s.Last.X+source.Int63n(3)-1, s.Last.Y+g*source.Int63n(2), s.Last.Z+source.Int63n(3)-1)
		}
		if source.Intn(20) == 0 {
			s.On = false
		}
		if source.Intn(20) == 0 {
			s = api.Tap{}
		}
		now := someMark(source)
		if source.Intn(3) > 0 {
			now = max(s.Since, s.Prev) + source.Int63n(400) - 2
		}
		got, want := taken(s, v, now), wantTake(s, v, now)
		if got != want {
			t.Fatalf("Take(%+v, %v, %d): %+v, not %+v", s, v, now, got, want)
		}
		seen[want.e]++
	}
	for _, e := range []api.Errno{api.OK, api.ErrForm, api.ErrRange} {
		if seen[e] < 1000 {
			t.Errorf("%v only %d times", e, seen[e])
		}
	}
}
