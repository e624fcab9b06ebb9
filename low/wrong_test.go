package low_test

import (
	"math"
	"math/rand"
	"testing"

	"gimbal/api"
)

// wrongShifts are no s: beside its ends, those that would be right if they were cut to fewer bits, and far beyond.
func wrongShifts() []int {
	return []int{-1, 16, -2, 17, 31, 32, 63, 64, 65, 255, 256, 257, -15, -16, -256, 1 << 32, 1<<32 + 1, -1 << 32, math.MaxInt, math.MinInt, math.MinInt + 1}
}

// wrongVectors are v with one number that is no word, at each place.
func wrongVectors(v api.Vec) []api.Vec {
	var list []api.Vec
	for i := range 3 {
		for _, wrong := range []int64{top + 1, -top - 1, top + 2, 1 << 46, -1 << 46, 1 << 62, math.MaxInt64, math.MinInt64, math.MinInt64 + 1} {
			list = append(list, placed(v, i, wrong))
		}
	}
	return list
}

// P12.1: what is of no form is told as that, with zeroes beside it; what is right is told as ahead of it.
func TestWrongTakes(t *testing.T) {
	for _, s := range []int{0, 1, 7, last} {
		for _, y := range someVectors() {
			for _, v := range someVectors() {
				for _, isOn := range []bool{true, false} {
					wrongTakes(t, api.Low{On: isOn, Y: y}, s, v)
				}
			}
		}
	}
}

func wrongTakes(t *testing.T, l api.Low, s int, v api.Vec) {
	t.Helper()
	ahead, none := taken(l, s, v), bad(api.ErrForm)
	for _, wrong := range wrongShifts() {
		check(t, []row{{"no s", l, wrong, v, none}})
	}
	for _, wrong := range wrongVectors(l.Y) {
		made := api.Low{On: l.On, Y: wrong}
		check(t, []row{
			{"no Y", made, s, v, none},
			{"no Y, and the sample as wrong", made, s, wrong, none},
			{"no Y, no s", made, -1, v, none},
			{"nothing right", made, 16, wrong, none},
		})
	}
	for _, wrong := range wrongVectors(v) {
		check(t, []row{
			{"no sample", l, s, wrong, none},
			{"no sample, no s", l, 16, wrong, none},
		})
	}
	if behind := taken(l, s, v); behind != ahead || ahead.e != api.OK {
		t.Errorf("Take(%+v, %d, %+v): %+v, then %+v", l, s, v, ahead, behind)
	}
}

// someWord is at the edges and between, of all lengths.
func someWord(source *rand.Rand) int64 {
	edges := []int64{0, 1, 2, 3, 1 << 14, 1 << 15, 3 << 14, 1 << 44, top - 1, top}
	v := source.Int63() >> (18 + source.Intn(46))
	if source.Intn(3) == 0 {
		v = edges[source.Intn(len(edges))]
	}
	if source.Intn(2) == 0 {
		return -v
	}
	return v
}

// someTake is a state, an s and a sample, which lies as often as not near the state.
func someTake(source *rand.Rand) (api.Low, int, api.Vec) {
	l, s, v := api.Low{On: source.Intn(10) > 0}, source.Intn(last+1), api.Vec{}
	for i, y := range numbers(&l.Y) {
		*y = someWord(source)
		number := someWord(source)
		if source.Intn(2) == 0 {
			number = *y + (source.Int63n(9)-4)<<s>>1 + source.Int63n(3) - 1
		}
		*numbers(&v)[i] = max(-top, min(number, top))
	}
	return l, s, v
}

// P12.1, P12.2, held against numbers of any length.
func TestExactly(t *testing.T) {
	source := rand.New(rand.NewSource(12))
	wrong := 0
	for range 60000 {
		l, s, v := someTake(source)
		switch source.Intn(30) {
		case 0:
			s = wrongShifts()[source.Intn(len(wrongShifts()))]
		case 1:
			list := wrongVectors(l.Y)
			l.Y = list[source.Intn(len(list))]
		case 2:
			list := wrongVectors(v)
			v = list[source.Intn(len(list))]
		}
		want := wantTake(l, s, v)
		if got := taken(l, s, v); got != want {
			t.Fatalf("Take(%+v, %d, %+v): %+v, not %+v", l, s, v, got, want)
		}
		if want.e != api.OK {
			wrong++
			continue
		}
		if !isBetween(l.Y, v, want.l.Y) {
			t.Fatalf("Take(%+v, %d, %+v): %+v lies not between", l, s, v, want)
		}
	}
	if wrong < 3000 {
		t.Errorf("only %d wrong ones", wrong)
	}
}
