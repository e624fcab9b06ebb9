package low_test

import (
	"testing"

	"gimbal/api"
	"gimbal/low"
)

const (
	top  = 1<<api.Bits - 1 // the greatest word
	last = 15              // the greatest s
)

// answer is what Take answers.
type answer struct {
	l api.Low
	e api.Errno
}

func taken(l api.Low, s int, v api.Vec) answer {
	m, e := low.Take(l, s, v)
	return answer{m, e}
}

func v3(x, y, z int64) api.Vec { return api.Vec{X: x, Y: y, Z: z} }

// all is a vector of three times v.
func all(v int64) api.Vec { return v3(v, v, v) }

func negative(v api.Vec) api.Vec { return v3(-v.X, -v.Y, -v.Z) }

// placed is a with v as its number i.
func placed(a api.Vec, i int, v int64) api.Vec {
	*numbers(&a)[i] = v
	return a
}

func numbers(a *api.Vec) []*int64 { return []*int64{&a.X, &a.Y, &a.Z} }

func on(y api.Vec) api.Low  { return api.Low{On: true, Y: y} }
func off(y api.Vec) api.Low { return api.Low{Y: y} }

func good(y api.Vec) answer  { return answer{l: on(y)} }
func bad(e api.Errno) answer { return answer{e: e} }

// isBetween tells whether each number of told lies between those of y and v.
func isBetween(y, v, told api.Vec) bool {
	for i, number := range numbers(&told) {
		a, b := *numbers(&y)[i], *numbers(&v)[i]
		if *number < min(a, b) || *number > max(a, b) {
			return false
		}
	}
	return true
}

type row struct {
	name string
	l    api.Low
	s    int
	v    api.Vec
	want answer
}

func check(t *testing.T, rows []row) {
	t.Helper()
	for _, r := range rows {
		if got := taken(r.l, r.s, r.v); got != r.want {
			t.Errorf("%s: Take(%+v, %d, %+v): %+v, not %+v", r.name, r.l, r.s, r.v, got, r.want)
		}
		if got := wantTake(r.l, r.s, r.v); got != r.want {
			t.Errorf("%s: the test itself is at odds: %+v, not %+v", r.name, got, r.want)
		}
	}
}

func someVectors() []api.Vec {
	return []api.Vec{{}, v3(1, 2, -3), v3(-5, 1<<20, 7), v3(1<<44, -1<<44, 3), all(top), all(-top), v3(top, -top, top-1)}
}

// P12.1: one that is not on becomes on, with the sample as its Y, whatever its Y and s were.
func TestOff(t *testing.T) {
	for s := range last + 1 {
		for _, y := range someVectors() {
			for _, v := range someVectors() {
				check(t, []row{{"not on", off(y), s, v, good(v)}})
			}
		}
	}
}

// P12.1: one that is on, by several s.
func TestOn(t *testing.T) {
	check(t, []row{
		{"from 0 by 10", on(api.Vec{}), 1, all(10), good(all(5))},
		{"from 5 by 10: 7.5", on(all(5)), 1, all(10), good(all(8))},
		{"from 8 by 10", on(all(8)), 1, all(10), good(all(9))},
		{"s 0", on(v3(100, -200, 300)), 0, v3(1, 2, 3), good(v3(1, 2, 3))},
		{"s 1", on(v3(100, -200, 300)), 1, v3(0, 2, -4), good(v3(50, -99, 148))},
		{"s 2", on(v3(100, -200, 300)), 2, v3(0, 2, -4), good(v3(75, -150, 224))}, // the second: -149.5
		{"s 3", on(v3(100, -200, 300)), 3, v3(0, 2, -4), good(v3(88, -175, 262))}, // 87.5, -174.75
		{"s 4", on(v3(100, -200, 300)), 4, v3(0, 2, -4), good(v3(94, -187, 281))}, // 93.75, -187.375
		{"s 8", on(v3(1000, -1000, 0)), 8, v3(0, 0, 256), good(v3(996, -996, 1))}, // 996.09..
		{"s 10", on(v3(0, 1<<20, -1<<20)), 10, v3(10240, 0, 0), good(v3(10, 1047552, -1047552))},
		{"s 15", on(v3(1<<30, 0, -1<<30)), 15, v3(0, 1<<30, 0), good(v3(1<<30-1<<15, 1<<15, 1<<15-1<<30))},
	})
}

// P12.1: each number goes its own way.
func TestNumbersApart(t *testing.T) {
	for s := range last + 1 {
		for i := range 3 {
			for _, v := range []int64{1 << 15, -1 << 15, 3 << 20, 1 << 40, -1 << 40} {
				check(t, []row{
					{"one that is up", on(api.Vec{}), s, placed(api.Vec{}, i, v), good(placed(api.Vec{}, i, v>>s))},
					{"one that is down", on(placed(all(-7), i, v)), s, placed(all(-7), i, 0), good(placed(all(-7), i, v-v>>s))},
				})
			}
		}
	}
}

// P12.1: several samples one behind the other, from none; the s may be another each time.
func TestRow(t *testing.T) {
	l := api.Low{}
	for _, step := range []struct {
		s       int
		v, want api.Vec
	}{
		{1, v3(0, 7, 0), v3(0, 7, 0)},
		{1, v3(10, 1, -3), v3(5, 4, -2)},
		{1, v3(10, 1, -3), v3(8, 2, -2)},
		{2, v3(0, 0, 0), v3(6, 2, -2)},
		{2, v3(0, 0, 2), v3(4, 2, -1)},
		{0, v3(9, 9, 9), v3(9, 9, 9)},
		{3, v3(-23, 21, 9), v3(5, 10, 9)},
		{15, v3(0, 0, 0), v3(5, 10, 9)},
	} {
		check(t, []row{{"in a row", l, step.s, step.v, good(step.want)}})
		l = taken(l, step.s, step.v).l
	}
}

// P12.1, P12.2: the same sample again and again: each step lies between the last one and the sample; it stays at last, at most half of 2^s away.
func TestSameAgain(t *testing.T) {
	starts := []api.Vec{{}, v3(1000, -1000, 1), v3(top, -top, top)}
	for _, s := range []int{0, 1, 2, 3, 5, 8, 11, last} {
		for _, start := range starts {
			v, l := v3(77, -1234, 1<<19), on(start)
			for steps := 0; ; steps++ {
				got := taken(l, s, v)
				if want := wantTake(l, s, v); got != want {
					t.Fatalf("Take(%+v, %d, %+v): %+v, not %+v", l, s, v, got, want)
				}
				if !isBetween(l.Y, v, got.l.Y) || steps > 60<<s {
					t.Fatalf("s %d, from %+v, step %d: from %+v to %+v", s, start, steps, l, got)
				}
				if got.l == l {
					break
				}
				l = got.l
			}
			for i, y := range numbers(&l.Y) {
				if away := *y - *numbers(&v)[i]; 2*max(away, -away) > 1<<s {
					t.Errorf("s %d, from %+v: stays at %+v", s, start, l.Y)
				}
			}
		}
	}
}

// P12.1: a sample and its negative: of negatives the negative is told, and both in turn bring it near 0.
func TestNegatives(t *testing.T) {
	check(t, []row{
		{"s 0", on(all(10)), 0, all(-10), good(all(-10))},
		{"s 1", on(all(10)), 1, all(-10), good(all(0))},
		{"s 2", on(all(10)), 2, all(-10), good(all(5))},
		{"s 2, the other way", on(all(-10)), 2, all(10), good(all(-5))},
		{"s 3: 7.5", on(all(10)), 3, all(-10), good(all(8))},
		{"s 3, the other way: -7.5", on(all(-10)), 3, all(10), good(all(-8))},
		{"s 15: 9.999", on(all(10)), 15, all(-10), good(all(10))},
	})
	for s := range last + 1 {
		for _, y := range someVectors() {
			for _, v := range someVectors() {
				there, back := taken(on(y), s, v), taken(on(negative(y)), s, negative(v))
				if there.e != api.OK || back != good(negative(there.l.Y)) {
					t.Errorf("Take(%+v, %d, %+v): %+v; of the negatives: %+v", y, s, v, there, back)
				}
			}
		}
	}
	l := api.Low{}
	for range 20 {
		l = taken(taken(l, 2, all(1000)).l, 2, all(-1000)).l
	}
	if !isBetween(all(-143), all(-142), l.Y) { // -1000/7, by 3/4 and 250 there, is 1000/7, by 3/4 and -250 back
		t.Errorf("both in turn: %+v", l)
	}
}

// P12.2: by s 0 it is the sample; by every s it lies between what it was and the sample, and stays of equal ones.
func TestWhatFollows(t *testing.T) {
	for s := range last + 1 {
		for _, y := range someVectors() {
			check(t, []row{{"equal", on(y), s, y, good(y)}})
			for _, v := range someVectors() {
				check(t, []row{{"s 0", on(y), 0, v, good(v)}})
				told := taken(on(y), s, v).l.Y
				if !isBetween(y, v, told) {
					t.Errorf("Take(%+v, %d, %+v): %+v lies not between", y, s, v, told)
				}
			}
		}
	}
}
