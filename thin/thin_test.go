package thin_test

import (
	"testing"

	"gimbal/api"
	"gimbal/thin"
)

const (
	top    = 1<<api.Bits - 1 // the greatest word
	most   = 256             // the greatest k
	last   = most - 1        // the greatest N
	topSum = 1<<53 - 1       // the greatest number of a Sum
)

// answer is what Take answers.
type answer struct {
	u    api.Thin
	m    api.Vec
	told bool
	e    api.Errno
}

func taken(t api.Thin, k int, v api.Vec) answer {
	u, m, told, e := thin.Take(t, k, v)
	return answer{u, m, told, e}
}

func v3(x, y, z int64) api.Vec { return api.Vec{X: x, Y: y, Z: z} }

// all is a vector of three times v.
func all(v int64) api.Vec { return v3(v, v, v) }

// placed is a with v as its number i.
func placed(a api.Vec, i int, v int64) api.Vec {
	*numbers(&a)[i] = v
	return a
}

func numbers(a *api.Vec) []*int64 { return []*int64{&a.X, &a.Y, &a.Z} }

func far(sum api.Vec, n int) api.Thin { return api.Thin{Sum: sum, N: n} }

func more(sum api.Vec, n int) answer { return answer{u: far(sum, n)} }
func tells(m api.Vec) answer         { return answer{m: m, told: true} }
func bad(e api.Errno) answer         { return answer{e: e} }

// counts are k's, at its ends and between.
func counts() []int { return []int{1, 2, 3, 4, 5, 7, 8, 100, 255, most} }

type row struct {
	name string
	t    api.Thin
	k    int
	v    api.Vec
	want answer
}

func check(t *testing.T, rows []row) {
	t.Helper()
	for _, r := range rows {
		if got := taken(r.t, r.k, r.v); got != r.want {
			t.Errorf("%s: Take(%+v, %d, %+v): %+v, not %+v", r.name, r.t, r.k, r.v, got, r.want)
		}
		if got := wantTake(r.t, r.k, r.v); got != r.want {
			t.Errorf("%s: the test itself is at odds: %+v, not %+v", r.name, got, r.want)
		}
	}
}

// inRow takes the samples one behind the other, from t on; the answers are those that are wanted, each held against the oracle too.
func inRow(t *testing.T, from api.Thin, k int, steps []step) {
	t.Helper()
	for _, s := range steps {
		check(t, []row{{"in a row", from, k, s.v, s.want}})
		from = taken(from, k, s.v).u
	}
}

type step struct {
	v    api.Vec
	want answer
}

// P14.1: a mean that fills from none, is told, and the next one behind it.
func TestRows(t *testing.T) {
	inRow(t, api.Thin{}, 2, []step{
		{all(3), more(all(3), 1)},
		{all(4), tells(all(4))}, // 3.5
		{all(4), more(all(4), 1)},
		{all(5), tells(all(4))}, // 4.5
	})
	inRow(t, api.Thin{}, 3, []step{
		{v3(1, -10, 100), more(v3(1, -10, 100), 1)},
		{v3(2, -20, 200), more(v3(3, -30, 300), 2)},
		{v3(6, -31, 0), tells(v3(3, -20, 100))}, // -20.33..
		{v3(7, 0, -7), more(v3(7, 0, -7), 1)},
		{v3(0, 7, 7), more(v3(7, 7, 0), 2)},
		{v3(1, 1, -1), tells(v3(3, 3, 0))}, // 2.66.., 2.66.., -0.33..
		{v3(5, 5, 5), more(v3(5, 5, 5), 1)},
	})
	inRow(t, api.Thin{}, 5, []step{
		{v3(1<<30, -1<<30, 0), more(v3(1<<30, -1<<30, 0), 1)},
		{v3(1<<30, -1<<30, 0), more(v3(1<<31, -1<<31, 0), 2)},
		{v3(0, 0, 12), more(v3(1<<31, -1<<31, 12), 3)},
		{v3(0, 0, 0), more(v3(1<<31, -1<<31, 12), 4)},
		{v3(1, -1, 1), tells(v3(429496730, -429496730, 3))}, // 429496729.8, 2.6
	})
	inRow(t, api.Thin{}, 8, []step{
		{v3(1, 8, -1), more(v3(1, 8, -1), 1)},
		{v3(2, 7, -2), more(v3(3, 15, -3), 2)},
		{v3(3, 6, -3), more(v3(6, 21, -6), 3)},
		{v3(4, 5, -4), more(v3(10, 26, -10), 4)},
		{v3(5, 4, -5), more(v3(15, 30, -15), 5)},
		{v3(6, 3, -6), more(v3(21, 33, -21), 6)},
		{v3(7, 2, -7), more(v3(28, 35, -28), 7)},
		{v3(8, 1, 0), tells(v3(4, 4, -4))}, // 4.5, 4.5, -3.5
	})
}

// P14.1: the greatest k: 255 are counted one by one, the last one tells the mean of all.
func TestGreatestCount(t *testing.T) {
	at, sum := api.Thin{}, api.Vec{}
	for round := range 3 {
		for i := range int64(last) {
			v := v3(i, -2*i, 7)
			sum = v3(sum.X+v.X, sum.Y+v.Y, sum.Z+v.Z)
			check(t, []row{{"counted", at, most, v, more(sum, int(i)+1)}})
			at = taken(at, most, v).u
		}
		check(t, []row{{"told", at, most, v3(1000, 0, 7), tells(v3(130, -253, 7))}}) // 33385/256: 130.41.., -64770/256: -253.007..
		at, sum = taken(at, most, all(1000)).u, api.Vec{}
		if at != (api.Thin{}) {
			t.Fatalf("round %d: %+v is left", round, at)
		}
	}
}

// P14.1: each number has a mean of its own.
func TestNumbersApart(t *testing.T) {
	for _, k := range []int{2, 3, 4, 5, 8, 100, last} {
		for i := range 3 {
			for _, v := range []int64{1, -1, 1 << 20, -1 << 20, top, -top} {
				n := int64(k)
				check(t, []row{
					{"one that is counted", far(all(5), 1), k + 1, placed(all(0), i, v), more(placed(all(5), i, 5+v), 2)},
					{"one that is other", far(all(9*(n-1)), k-1), k, placed(all(9), i, 9+7*n), tells(placed(all(9), i, 16))},
					{"one whose sum is other", far(placed(all(9*(n-1)), i, -9*(n-1)), k-1), k, placed(all(9), i, -9), tells(placed(all(9), i, -9))},
				})
			}
		}
	}
	check(t, []row{
		{"three means", far(v3(10, -20, 30), 3), 4, v3(2, -4, 2), tells(v3(3, -6, 8))},
		{"three sums", far(v3(10, -20, 30), 3), 5, v3(2, -4, 2), more(v3(12, -24, 32), 4)},
	})
}

// P14.1: k may be another each time: the mean is of as many as there are, not of k.
func TestOtherCounts(t *testing.T) {
	check(t, []row{
		{"less than there are", far(v3(30, 60, -30), 5), 2, v3(1, 0, -1), tells(v3(5, 10, -5))}, // 5.16..
		{"just as many as there are", far(v3(30, 60, -30), 5), 5, v3(6, 6, -6), tells(v3(6, 11, -6))},
		{"one more", far(v3(30, 60, -30), 5), 6, v3(6, 6, -6), tells(v3(6, 11, -6))},
		{"two more", far(v3(30, 60, -30), 5), 7, v3(6, 6, -6), more(v3(36, 66, -36), 6)},
		{"the greatest", far(v3(30, 60, -30), 5), most, v3(6, 6, -6), more(v3(36, 66, -36), 6)},
		{"each one", far(v3(30, 60, -30), 5), 1, v3(6, 6, -6), tells(v3(6, 11, -6))},
	})
}

// P14.2: by k 1 each sample is told.
func TestEachOne(t *testing.T) {
	at := api.Thin{}
	for _, v := range []api.Vec{{}, v3(1, -2, 3), v3(-1, 2, -3), all(top), all(-top), v3(top, -top, 0), v3(1<<44, 1, -1<<44)} {
		check(t, []row{{"each one", at, 1, v, tells(v)}})
		at = taken(at, 1, v).u
	}
}

// P14.2: k equal ones tell that one, by each k.
func TestEqualOnes(t *testing.T) {
	for k := 1; k <= most; k++ {
		for _, v := range []api.Vec{{}, v3(1, -1, 2), v3(-3, 7, 1<<40), all(top), all(-top), v3(top, -top, 1-top)} {
			at := api.Thin{}
			for n := 1; n < k; n++ {
				got := taken(at, k, v)
				if want := wantTake(at, k, v); got != want || got.told || got.u.N != n {
					t.Fatalf("k %d: Take(%+v, %+v): %+v, not %+v", k, at, v, got, want)
				}
				at = got.u
			}
			if got := taken(at, k, v); got != tells(v) {
				t.Fatalf("%d of %+v: %+v", k, v, got)
			}
		}
	}
}
