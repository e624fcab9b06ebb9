package median_test

import (
	"slices"
	"testing"

	"gimbal/api"
	"gimbal/median"
)

const top = 1<<api.Bits - 1 // the greatest word

// answer is what Take answers.
type answer struct {
	window []api.Vec
	m      api.Vec
	e      api.Errno
}

func taken(l []api.Vec, n int, v api.Vec) answer {
	window, m, e := median.Take(l, n, v)
	return answer{window, m, e}
}

// isAs holds a nil list and an empty one for one.
func (a answer) isAs(b answer) bool {
	return slices.Equal(a.window, b.window) && a.m == b.m && a.e == b.e
}

func sizes() []int { return []int{1, 3, 5, 7} }

func v3(x, y, z int64) api.Vec { return api.Vec{X: x, Y: y, Z: z} }

// all is a vector of three times v.
func all(v int64) api.Vec { return v3(v, v, v) }

func numbers(a *api.Vec) []*int64 { return []*int64{&a.X, &a.Y, &a.Z} }

// placed is a with v as its number i.
func placed(a api.Vec, i int, v int64) api.Vec {
	*numbers(&a)[i] = v
	return a
}

// line is a vector of three times each number.
func line(list ...int64) []api.Vec {
	var made []api.Vec
	for _, v := range list {
		made = append(made, all(v))
	}
	return made
}

// joined is l and v in new memory.
func joined(l []api.Vec, v ...api.Vec) []api.Vec { return slices.Concat(l, v) }

func good(m api.Vec, window ...api.Vec) answer { return answer{window: window, m: m} }
func bad(e api.Errno) answer                   { return answer{e: e} }

type row struct {
	name string
	l    []api.Vec
	n    int
	v    api.Vec
	want answer
}

func check(t *testing.T, rows []row) {
	t.Helper()
	for _, r := range rows {
		if got := taken(r.l, r.n, r.v); !got.isAs(r.want) {
			t.Errorf("%s: Take(%v, %d, %v): %v, not %v", r.name, r.l, r.n, r.v, got, r.want)
		}
		if got := wantTake(r.l, r.n, r.v); !got.isAs(r.want) {
			t.Errorf("%s: the test itself is at odds: %v, not %v", r.name, got, r.want)
		}
	}
}

// P13.1: the chapter's example, and its three numbers at each place.
func TestExample(t *testing.T) {
	check(t, []row{
		{"5, 1 and 9", line(5, 1), 3, all(9), good(all(5), line(5, 1, 9)...)},
		{"with zeroes beside it", []api.Vec{v3(5, 0, 0), v3(1, 0, 0)}, 3, v3(9, 0, 0), good(v3(5, 0, 0), v3(5, 0, 0), v3(1, 0, 0), v3(9, 0, 0))},
		{"at the second place", []api.Vec{v3(0, 5, 0), v3(0, 1, 0)}, 3, v3(0, 9, 0), good(v3(0, 5, 0), v3(0, 5, 0), v3(0, 1, 0), v3(0, 9, 0))},
		{"at the third place", []api.Vec{v3(0, 0, 5), v3(0, 0, 1)}, 3, v3(0, 0, 9), good(v3(0, 0, 5), v3(0, 0, 5), v3(0, 0, 1), v3(0, 0, 9))},
	})
}

// P13.1: a window that fills from none and then slides, by each n; what was told is handed in again.
func TestFillAndSlide(t *testing.T) {
	samples := []int64{40, -10, 30, 70, -20, 60, 0, 50, -30, 20, 10, 80}
	middles := map[int][]int64{
		1: samples,
		3: {40, -10, 30, 30, 30, 60, 0, 50, 0, 20, 10, 20},
		5: {40, -10, 30, 30, 30, 30, 30, 50, 0, 20, 10, 20},
		7: {40, -10, 30, 30, 30, 30, 30, 30, 30, 20, 10, 20},
	}
	for _, n := range sizes() {
		var l []api.Vec
		for i, sample := range samples {
			window := line(samples[max(0, i+1-n) : i+1]...)
			check(t, []row{{"in a row", l, n, all(sample), good(all(middles[n][i]), window...)}})
			l = taken(l, n, all(sample)).window
		}
	}
}

// P13.1: of each number its own middle, at a place of the window of its own.
func TestMiddlesApart(t *testing.T) {
	check(t, []row{
		{"at the first, the second and the third", []api.Vec{v3(2, 1, 3), v3(1, 2, 1)}, 3, v3(3, 3, 2),
			good(v3(2, 2, 2), v3(2, 1, 3), v3(1, 2, 1), v3(3, 3, 2))},
		{"one rising, one falling, one neither", []api.Vec{v3(1, 9, 4), v3(2, 8, -6), v3(3, 7, 5), v3(4, 6, -7)}, 5, v3(5, 5, 0),
			good(v3(3, 7, 0), v3(1, 9, 4), v3(2, 8, -6), v3(3, 7, 5), v3(4, 6, -7), v3(5, 5, 0))},
		{"of seven", []api.Vec{v3(4, -1, 70), v3(1, -2, 60), v3(7, -3, 50), v3(2, -4, 10), v3(6, -5, 20), v3(3, -6, 30)}, 7, v3(5, -7, 40),
			good(v3(4, -4, 40), v3(4, -1, 70), v3(1, -2, 60), v3(7, -3, 50), v3(2, -4, 10), v3(6, -5, 20), v3(3, -6, 30), v3(5, -7, 40))},
		{"one that slides out", []api.Vec{v3(2, 2, 2), v3(1, 9, 5), v3(9, 1, 6)}, 3, v3(5, 5, 7),
			good(v3(5, 5, 6), v3(1, 9, 5), v3(9, 1, 6), v3(5, 5, 7))},
	})
}

// P13.1: one number that is far off is not told, wherever in the window it stands.
func TestOneFarOff(t *testing.T) {
	for _, n := range sizes()[1:] {
		for place := range n {
			for i := range 3 {
				for _, far := range []int64{1 << 40, -1 << 40} {
					window := slices.Repeat(line(7), n)
					window[place] = placed(all(7), i, far)
					check(t, []row{{"far off", window[:n-1], n, window[n-1], good(all(7), window...)}})
				}
			}
		}
	}
}

// orders is the list in all its orders.
func orders(list []api.Vec) [][]api.Vec {
	if len(list) == 0 {
		return [][]api.Vec{nil}
	}
	var made [][]api.Vec
	for i, first := range list {
		rest := slices.Delete(slices.Clone(list), i, i+1)
		for _, order := range orders(rest) {
			made = append(made, joined([]api.Vec{first}, order...))
		}
	}
	return made
}

// P13.2: with the window in another order the middle is the same: in every order of up to seven, full and not.
func TestOrders(t *testing.T) {
	list := []api.Vec{v3(3, -3, 0), v3(1, -5, top), v3(4, -9, 5), v3(1, -2, -top), v3(5, -6, 5), v3(9, -5, 1), v3(2, -3, -1)}
	want := []api.Vec{v3(3, -3, 0), v3(1, -5, 0), v3(3, -5, 5), v3(1, -5, 0), v3(3, -5, 5), v3(3, -5, 1), v3(3, -5, 1)}
	for k := 1; k <= len(list); k++ {
		for _, order := range orders(list[:k]) {
			for _, n := range sizes() {
				if n < k {
					continue
				}
				got := taken(order[:k-1], n, order[k-1])
				if !got.isAs(good(want[k-1], order...)) {
					t.Fatalf("n %d, of %v: %v, not %v", n, order, got, want[k-1])
				}
			}
		}
	}
}

// P13.2: the answer hangs on the window alone: by l with just n what its first one was is not seen in the middle.
func TestFirstOneGone(t *testing.T) {
	for _, n := range sizes() {
		rest := line(6, -4, 9, 0, 3, -8)[:n-1]
		want := taken(rest, n, all(2))
		for _, first := range line(0, 1, 2, 3, top, -top) {
			got := taken(joined([]api.Vec{first}, rest...), n, all(2))
			if want.e != api.OK || len(want.window) != n || !got.isAs(want) {
				t.Errorf("n %d, behind %v: %v, not %v", n, first, got, want)
			}
		}
	}
}
