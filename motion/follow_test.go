package motion_test

import (
	"math/rand"
	"testing"

	"gimbal/api"
)

// sample is a magnitude, and when it comes.
type sample struct{ m, now int64 }

// someMagnitude is mostly near gravity, now and then far away.
func someMagnitude(source *rand.Rand) int64 {
	switch source.Intn(6) {
	case 0:
		return source.Int63n(5)
	case 1:
		return tenth + source.Int63n(7) - 3
	case 2:
		return source.Int63n(top + 1)
	case 3:
		return top - source.Int63n(3)
	}
	return g + source.Int63n(2*tenth) - tenth
}

// someWalk is rests and motions by turns, each of some windows; what rests trembles by up to a tenth of gravity.
func someWalk(source *rand.Rand) []sample {
	now, longest := source.Int63n(1000), 1+source.Int63n(400)
	var list []sample
	for len(list) < 3000 {
		until, shakes := now+source.Int63n(15000), source.Intn(2) == 0
		for now < until {
			m := g + source.Int63n(tenth+1)
			if shakes && source.Intn(8) == 0 {
				m = someMagnitude(source)
			}
			list = append(list, sample{m, now})
			now += source.Int63n(longest)
		}
	}
	return list
}

// wantTold tells of a walk at which samples a motion must be told, by the whole list: it is cut into windows, of which each sample that comes 1000 ticks behind a window's first one begins another.
func wantTold(list []sample) []bool {
	told := make([]bool, len(list))
	var moved []bool // of each window that ended
	first, last := 0, -1
	for i, x := range list {
		if x.now < list[first].now+1000 {
			continue
		}
		moved = append(moved, hasShaken(list[first:i]))
		first = i
		if shaken(moved) >= 5 && (last < 0 || hasRested(moved[last:])) {
			told[i], last = true, len(moved)
		}
	}
	return told
}

// hasShaken tells whether two samples of a window are further apart than a tenth of gravity.
func hasShaken(list []sample) bool {
	for _, x := range list {
		for _, y := range list {
			if x.m > y.m+tenth {
				return true
			}
		}
	}
	return false
}

// shaken is how many of the last eight windows moved.
func shaken(moved []bool) int {
	count := 0
	for _, x := range moved[max(0, len(moved)-8):] {
		if x {
			count++
		}
	}
	return count
}

// hasRested tells whether there are eight windows in a row that did not move.
func hasRested(moved []bool) bool {
	still := 0
	for _, x := range moved {
		still++
		if x {
			still = 0
		}
		if still == 8 {
			return true
		}
	}
	return false
}

// P21.1, P21.2: whole walks: a motion is told as five of eight windows moved, and again only behind eight in a row that did not.
func TestWalks(t *testing.T) {
	count, again := 0, 0
	for seed := range int64(300) {
		list := someWalk(rand.New(rand.NewSource(2100 + seed)))
		told, x, here := wantTold(list), off, 0
		for i, s := range list {
			got := taken(x, s.m, s.now)
			if want := wantTake(x, s.m, s.now); got != want {
				t.Fatalf("Take(%+v, %d, %d): %+v, not %+v", x, s.m, s.now, got, want)
			}
			if got.told != told[i] || got.e != api.OK {
				t.Fatalf("seed %d, sample %d: %+v, not %v", seed, i, got, told[i])
			}
			if got.told {
				here++
			}
			x = got.x
		}
		count += here
		again += max(0, here-1)
	}
	if count < 1000 || again < 500 {
		t.Errorf("told only %d times, again %d times", count, again)
	}
}

// P21.2: a steady magnitude tells nothing, however long and however often it comes.
func TestSteady(t *testing.T) {
	for _, m := range []int64{0, 1, tenth, tenth + 1, g, 1 << 32, top} {
		for _, each := range []int64{0, 1, 50, 999, 1000, 1001, 100000} {
			x := off
			for i := range int64(3000) {
				got := taken(x, m, each*i)
				if got.told || got.e != api.OK || got.x.Min != m || got.x.Max != m || got.x.Moved != 0 || got.x.Told {
					t.Fatalf("Take(%+v, %d, %d): %+v", x, m, each*i, got)
				}
				x = got.x
			}
		}
	}
}

// P21.2: nor does what trembles by no more than a tenth of gravity.
func TestTrembles(t *testing.T) {
	source := rand.New(rand.NewSource(2102))
	for range 50 {
		x, now, least := off, source.Int63n(1<<39), source.Int63n(2*g)
		for range 3000 {
			m := least + source.Int63n(tenth+1)
			if source.Intn(3) == 0 {
				m = least + tenth*source.Int63n(2)
			}
			got := taken(x, m, now)
			if got.told || got.e != api.OK || got.x.Moved != 0 {
				t.Fatalf("Take(%+v, %d, %d): %+v", x, m, now, got)
			}
			x = got.x
			now += source.Int63n(300)
		}
	}
}

// P21.2: what moved last, was told and then is steady tells nothing more, and is ready again with the eighth window.
func TestSteadyBehindMotion(t *testing.T) {
	for moved := 1; moved < 256; moved += 2 {
		x := toldOf(on(0, 0, 0, moved))
		for k := int64(1); k <= 8; k++ {
			got := taken(x, 0, 1000*k)
			if got.told || got.e != api.OK || got.x.Told != (k < 8) {
				t.Fatalf("Take(%+v, 0, %d): %+v", x, 1000*k, got)
			}
			x = got.x
		}
		if x != on(8000, 0, 0, 0) {
			t.Errorf("behind %b: %+v", moved, x)
		}
	}
}

// P21.2: it is told again behind just eight windows that did not move, and never behind fewer, though they be many times as many.
func TestAgain(t *testing.T) {
	for still := range 8 {
		if told := toldIn("11111", still, 20); told != 1 {
			t.Errorf("behind %d windows each: told %d times", still, told)
		}
	}
	for _, still := range []int{8, 9, 20} {
		if told := toldIn("11111", still, 20); told != 20 {
			t.Errorf("behind %d windows each: told %d times", still, told)
		}
	}
	if told := toldIn("1111", 8, 20); told != 0 {
		t.Errorf("four windows each: told %d times", told)
	}
}

// toldIn is how often it is told in those windows and as many still ones, all of it several times.
func toldIn(moves string, still, times int) int {
	x, now, told := off, int64(0), 0
	take := func(m int64, later int64) {
		got := taken(x, m, now+later)
		if got.told {
			told++
		}
		x = got.x
	}
	for range times {
		for range moves {
			take(0, 0)
			take(g, 600)
			now += 1000
		}
		for range still {
			take(0, 0)
			now += 1000
		}
	}
	take(0, 0)
	return told
}

// someTime is mostly a time, near its ends as well.
func someTime(source *rand.Rand) int64 {
	switch source.Intn(5) {
	case 0:
		return source.Int63n(5) - 1
	case 1:
		return clock + source.Int63n(5) - 3
	case 2:
		return source.Int63n(3000)
	}
	return source.Int63n(clock)
}

// someState is mostly good, and now and then wrong in one part.
func someState(source *rand.Rand) api.Motion {
	if source.Intn(8) == 0 {
		return off
	}
	least := someMagnitude(source)
	most := least + tenth + source.Int63n(7) - 3
	if source.Intn(3) == 0 {
		most = least + source.Int63n(2*tenth)
	}
	x := api.Motion{On: true, Start: someTime(source), Min: least, Max: most, Moved: source.Intn(256), Told: source.Intn(2) == 0}
	switch source.Intn(40) {
	case 0:
		x.On = false
	case 1:
		x.Min, x.Max = x.Max, x.Min
	case 2:
		x.Moved = source.Intn(1024) - 512
	case 3:
		x.Min -= 1 << source.Intn(46)
	case 4, 5, 6:
		x.Moved = 1 << source.Intn(8)
	}
	return x
}

// P21.1: any states, magnitudes and times, good ones and wrong ones.
func TestAtRandom(t *testing.T) {
	source := rand.New(rand.NewSource(2101))
	seen := map[string]int{}
	for range 300000 {
		x, m, now := someState(source), someMagnitude(source), someTime(source)
		if source.Intn(3) > 0 {
			now = x.Start + source.Int63n(2004) - 2
		}
		if source.Intn(20) == 0 {
			m -= 1 << source.Intn(46)
		}
		got, want := taken(x, m, now), wantTake(x, m, now)
		if got != want {
			t.Fatalf("Take(%+v, %d, %d): %+v, not %+v", x, m, now, got, want)
		}
		seen[kind(x, want)]++
	}
	for _, k := range []string{"bad", "first", "within", "told", "told no more", "still told", "not told"} {
		if seen[k] < 200 {
			t.Errorf("%s only %d times", k, seen[k])
		}
	}
}

// kind is what an answer makes of a state.
func kind(x api.Motion, a answer) string {
	switch {
	case a.e != api.OK:
		return "bad"
	case !x.On:
		return "first"
	case a.x.Start == x.Start && a.x.Moved == x.Moved:
		return "within"
	case a.told:
		return "told"
	case x.Told && !a.x.Told:
		return "told no more"
	case x.Told:
		return "still told"
	}
	return "not told"
}
