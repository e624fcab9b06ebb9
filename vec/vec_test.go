package vec_test

import (
	"math"
	"math/big"
	"math/rand"
	"testing"

	"gimbal/api"
	"gimbal/vec"
)

const (
	top  = 1<<api.Bits - 1 // the greatest word
	one  = api.One
	half = api.One / 2
)

// number and vector are what a call answers.
type number struct {
	v int64
	e api.Errno
}

type vector struct {
	v api.Vec
	e api.Errno
}

func numberTold(v int64, e api.Errno) number { return number{v, e} }
func goodNumber(v int64) number              { return number{v, api.OK} }
func badNumber(e api.Errno) number           { return number{0, e} }

func told(v api.Vec, e api.Errno) vector { return vector{v, e} }
func good(x, y, z int64) vector          { return vector{v3(x, y, z), api.OK} }
func bad(e api.Errno) vector             { return vector{api.Vec{}, e} }

func v3(x, y, z int64) api.Vec     { return api.Vec{X: x, Y: y, Z: z} }
func place(i int, v int64) api.Vec { return placed(api.Vec{}, i, v) }
func negative(a api.Vec) api.Vec   { return v3(-a.X, -a.Y, -a.Z) }

func size(v int64) int64    { return max(v, -v) }
func sizes(a api.Vec) int64 { return size(a.X) + size(a.Y) + size(a.Z) }

// wrongOnes are no words.
func wrongOnes() []int64 {
	return []int64{top + 1, -top - 1, 1 << 62, math.MaxInt64, math.MinInt64}
}

// placed is a with v as its number i.
func placed(a api.Vec, i int, v int64) api.Vec {
	list := [3]int64{a.X, a.Y, a.Z}
	list[i] = v
	return v3(list[0], list[1], list[2])
}

// withNumber is m with v as its number i.
func withNumber(m [9]int64, i int, v int64) [9]int64 {
	m[i] = v
	return m
}

type row[T comparable] struct {
	name      string
	got, want T
}

func check[T comparable](t *testing.T, rows []row[T]) {
	t.Helper()
	for _, r := range rows {
		if r.got != r.want {
			t.Errorf("%s: %v, not %v", r.name, r.got, r.want)
		}
	}
}

// P3.1: Check.
func TestCheck(t *testing.T) {
	for _, a := range []api.Vec{v3(0, 0, 0), v3(1, -2, 3), v3(top, top, top), v3(-top, -top, -top), v3(-top, 0, top)} {
		if e := vec.Check(a); e != api.OK {
			t.Errorf("Check(%v): %v", a, e)
		}
	}
	for i := range 3 {
		for _, wrong := range wrongOnes() {
			if e := vec.Check(placed(v3(1, 2, 3), i, wrong)); e != api.ErrForm {
				t.Errorf("Check with %d at place %d: %v", wrong, i, e)
			}
		}
	}
}

// P3.1: Add, Sub, Neg, Scale.
func TestNumberByNumber(t *testing.T) {
	a, b := v3(1, -20, 300), v3(4000, 50000, -600000)
	check(t, []row[vector]{
		{"Add", told(vec.Add(a, b)), good(4001, 49980, -599700)},
		{"Sub", told(vec.Sub(a, b)), good(-3999, -50020, 600300)},
		{"Neg", told(vec.Neg(a)), good(-1, 20, -300)},
		{"Neg of 0", told(vec.Neg(v3(0, 0, 0))), good(0, 0, 0)},
		{"Neg of the ends", told(vec.Neg(v3(top, -top, 0))), good(-top, top, 0)},
		{"Add at the ends", told(vec.Add(v3(top-1, 1-top, top), v3(1, -1, -top))), good(top, -top, 0)},
		{"Sub at the ends", told(vec.Sub(v3(top-1, 1-top, top), v3(-1, 1, top))), good(top, -top, 0)},
		{"Scale by One", told(vec.Scale(v3(top, -top, 7), one)), good(top, -top, 7)},
		{"Scale by -One", told(vec.Scale(v3(top, -top, 7), -one)), good(-top, top, -7)},
		{"Scale by 0", told(vec.Scale(v3(top, -top, 7), 0)), good(0, 0, 0)},
		{"Scale by 3", told(vec.Scale(v3(1, -20, 300), 3*one)), good(3, -60, 900)},
		{"Scale, halves", told(vec.Scale(v3(1, 3, 5), half)), good(0, 2, 2)},
		{"Scale, halves below 0", told(vec.Scale(v3(-1, -3, -5), half)), good(0, -2, -2)},
		{"Scale by less than 0, halves", told(vec.Scale(v3(1, 3, 5), -half)), good(0, -2, -2)},
		{"Scale, just above halves", told(vec.Scale(v3(1, 5, -5), half+1)), good(1, 3, -3)},
		{"Scale, just below halves", told(vec.Scale(v3(1, 3, -3), half-1)), good(0, 1, -1)},
		{"Scale, just within", told(vec.Scale(v3(1<<44, -1<<44, 1), 2*one-1)), good(1<<45-1<<14, 1<<14-1<<45, 2)},
	})
	for i := range 3 {
		check(t, []row[vector]{
			{"Add above", told(vec.Add(place(i, top), place(i, 1))), bad(api.ErrRange)},
			{"Add below", told(vec.Add(place(i, -top), place(i, -1))), bad(api.ErrRange)},
			{"Sub above", told(vec.Sub(place(i, top), place(i, -1))), bad(api.ErrRange)},
			{"Sub below", told(vec.Sub(place(i, -top), place(i, 1))), bad(api.ErrRange)},
			{"Add of the greatest", told(vec.Add(place(i, top), v3(top, top, top))), bad(api.ErrRange)},
			{"Scale just above", told(vec.Scale(place(i, top), one+1)), bad(api.ErrRange)},
			{"Scale just below", told(vec.Scale(place(i, -top), one+1)), bad(api.ErrRange)},
			{"Scale to 2^45", told(vec.Scale(place(i, 1<<44), 2*one)), bad(api.ErrRange)},
			{"Scale of the greatest", told(vec.Scale(place(i, top), -top)), bad(api.ErrRange)},
		})
	}
}

// P3.2: Dot.
func TestDot(t *testing.T) {
	dot := func(a, b api.Vec) number { return numberTold(vec.Dot(a, b)) }
	check(t, []row[number]{
		{"ordinary", dot(v3(2*one, -3*one, 5*one), v3(7*one, 11*one, 13*one)), goodNumber(46 * one)},
		{"of 0", dot(v3(0, 0, 0), v3(top, top, top)), goodNumber(0)},
		{"X alone", dot(v3(5, 0, 0), v3(one, 100*one, 100*one)), goodNumber(5)},
		{"Y alone", dot(v3(0, 5, 0), v3(100*one, one, 100*one)), goodNumber(5)},
		{"Z alone", dot(v3(0, 0, 5), v3(100*one, 100*one, one)), goodNumber(5)},
		{"1/2", dot(v3(1, 0, 0), v3(half, 0, 0)), goodNumber(0)},
		{"3/2", dot(v3(1, 1, 1), v3(half, half, half)), goodNumber(2)},
		{"5/2", dot(v3(5, 0, 0), v3(half, 0, 0)), goodNumber(2)},
		{"-1/2", dot(v3(1, 0, 0), v3(-half, 0, 0)), goodNumber(0)},
		{"-3/2", dot(v3(1, 1, 1), v3(-half, -half, -half)), goodNumber(-2)},
		{"-5/2", dot(v3(-5, 0, 0), v3(half, 0, 0)), goodNumber(-2)},
		{"just above 1/2", dot(v3(1, 1, 0), v3(half, 1, 0)), goodNumber(1)},
		{"just below -1/2", dot(v3(1, 1, 0), v3(-half, -1, 0)), goodNumber(-1)},
		{"just below 3/2", dot(v3(3, 1, 0), v3(half, -1, 0)), goodNumber(1)},
		{"rounded once, not thrice", dot(v3(1, 1, 1), v3(one/3, one/3, one/3)), goodNumber(1)},
		{"rounded once, below 0", dot(v3(1, 1, 1), v3(-one/3, -one/3, -one/3)), goodNumber(-1)},
		{"at the greatest", dot(v3(top, 1, 0), v3(one, half-1, 0)), goodNumber(top)},
		{"just above the greatest", dot(v3(top, 1, 0), v3(one, half, 0)), badNumber(api.ErrRange)},
		{"at the least", dot(v3(-top, 0, -1), v3(one, 0, half-1)), goodNumber(-top)},
		{"just below the least", dot(v3(-top, 0, -1), v3(one, 0, half)), badNumber(api.ErrRange)},
		{"of the greatest", dot(v3(top, top, top), v3(top, top, top)), badNumber(api.ErrRange)},
		{"of the least", dot(v3(-top, -top, -top), v3(top, top, top)), badNumber(api.ErrRange)},
		{"great parts, a small sum", dot(v3(top, top, 1), v3(top, -top, one)), goodNumber(1)},
		{"great parts, a half", dot(v3(top, top, 1), v3(-top, top, half)), goodNumber(0)},
		{"great parts, three halves", dot(v3(top, 3, top), v3(top, half, -top)), goodNumber(2)},
		{"great parts, less than three halves", dot(v3(3, top, top), v3(-half, top, -top)), goodNumber(-2)},
		{"great parts, 0", dot(v3(top, top, 0), v3(top, -top, top)), goodNumber(0)},
		{"great parts that are all but even", dot(v3(top, top-1, 0), v3(top-2, 1-top, 0)), goodNumber(0)},
		{"2^62 and its like", dot(v3(1<<31, 1<<31, 1<<31), v3(1<<31, 1<<31, 1<<31)), goodNumber(3 << 32)},
		{"2^64 and its like", dot(v3(1<<32, 1<<32, 1), v3(1<<32, -1<<31, 3*half)), goodNumber(1<<33 + 2)},
	})
}

// P3.2: Cross.
func TestCross(t *testing.T) {
	x, y, z := v3(one, 0, 0), v3(0, one, 0), v3(0, 0, one)
	cross := func(a, b api.Vec) vector { return told(vec.Cross(a, b)) }
	check(t, []row[vector]{
		{"x, y", cross(x, y), good(0, 0, one)},
		{"y, z", cross(y, z), good(one, 0, 0)},
		{"z, x", cross(z, x), good(0, one, 0)},
		{"y, x", cross(y, x), good(0, 0, -one)},
		{"z, y", cross(z, y), good(-one, 0, 0)},
		{"x, z", cross(x, z), good(0, -one, 0)},
		{"ordinary", cross(v3(2*one, 3*one, 5*one), v3(7*one, -11*one, 13*one)), good(94*one, 9*one, -43*one)},
		{"with itself", cross(v3(top, -top, top), v3(top, -top, top)), good(0, 0, 0)},
		{"with its negative", cross(v3(top, -top, 3), v3(-top, top, -3)), good(0, 0, 0)},
		{"of 0", cross(v3(0, 0, 0), v3(top, top, top)), good(0, 0, 0)},
	})
	// Both products are some 2^88: their difference is some halves of One.
	const many = 1 << 29
	for _, c := range []struct{ halves, want int64 }{{1, 0}, {3, 2}, {5, 2}, {7, 4}, {-1, 0}, {-3, -2}, {-5, -2}} {
		a := [2]int64{half * (1<<15 + 1), half * (1 << 15)}
		b := [2]int64{c.halves + (1<<15+1)*many, c.halves + (1<<15)*many}
		check(t, []row[vector]{
			{"great products, X", cross(v3(0, a[0], a[1]), v3(0, b[0], b[1])), good(c.want, 0, 0)},
			{"great products, Y", cross(v3(a[1], 0, a[0]), v3(b[1], 0, b[0])), good(0, c.want, 0)},
			{"great products, Z", cross(v3(a[0], a[1], 0), v3(b[0], b[1], 0)), good(0, 0, c.want)},
		})
	}
	for _, sign := range []int64{1, -1} {
		within := [2]int64{-(half - 1) * sign, one * sign}
		beyond := [2]int64{-half * sign, one * sign}
		check(t, []row[vector]{
			{"X at the end", cross(v3(0, top, 1), v3(0, within[0], within[1])), good(sign*top, 0, 0)},
			{"X beyond", cross(v3(0, top, 1), v3(0, beyond[0], beyond[1])), bad(api.ErrRange)},
			{"Y at the end", cross(v3(1, 0, top), v3(within[1], 0, within[0])), good(0, sign*top, 0)},
			{"Y beyond", cross(v3(1, 0, top), v3(beyond[1], 0, beyond[0])), bad(api.ErrRange)},
			{"Z at the end", cross(v3(top, 1, 0), v3(within[0], within[1], 0)), good(0, 0, sign*top)},
			{"Z beyond", cross(v3(top, 1, 0), v3(beyond[0], beyond[1], 0)), bad(api.ErrRange)},
			{"of the greatest", cross(v3(top, -top, top), v3(sign*top, sign*top, 0)), bad(api.ErrRange)},
		})
	}
}

// P3.3: Norm.
func TestNorm(t *testing.T) {
	const edge = 5931641 // its square is just not above top, so that with top it does not make another half
	check(t, []row[number]{
		{"0", numberTold(vec.Norm(v3(0, 0, 0))), goodNumber(0)},
		{"3, 4, 0", numberTold(vec.Norm(v3(3, 4, 0))), goodNumber(5)},
		{"2, -3, 6", numberTold(vec.Norm(v3(2, -3, 6))), goodNumber(7)},
		{"down", numberTold(vec.Norm(v3(1, 0, 1))), goodNumber(1)},
		{"up", numberTold(vec.Norm(v3(-1, 1, -1))), goodNumber(2)},
		{"the greatest alone, X", numberTold(vec.Norm(v3(top, 0, 0))), goodNumber(top)},
		{"the greatest alone, Y", numberTold(vec.Norm(v3(0, -top, 0))), goodNumber(top)},
		{"the greatest alone, Z", numberTold(vec.Norm(v3(0, 0, top))), goodNumber(top)},
		{"just within", numberTold(vec.Norm(v3(edge, 0, -top))), goodNumber(top)},
		{"just above", numberTold(vec.Norm(v3(edge+1, 0, -top))), badNumber(api.ErrRange)},
		{"just below an end", numberTold(vec.Norm(v3(edge+1, top-1, 0))), goodNumber(top)},
		{"two of the greatest", numberTold(vec.Norm(v3(0, top, -top))), badNumber(api.ErrRange)},
		{"three of the greatest", numberTold(vec.Norm(v3(top, top, top))), badNumber(api.ErrRange)},
		{"three of 2^44", numberTold(vec.Norm(v3(1<<44, 1<<44, 1<<44))), goodNumber(30470560045133)},
	})
}

// P3.3: Unit.
func TestUnit(t *testing.T) {
	// With these the root of the sum is just not 2^45, and just above it: 2^14 is just more, and just less, than the half that is rounded.
	const shy = 8388591
	check(t, []row[vector]{
		{"3, 4, 0", told(vec.Unit(v3(3, 4, 0))), good(644245094, 858993459, 0)},
		{"-4, 0, 3", told(vec.Unit(v3(-4, 0, 3))), good(-858993459, 0, 644245094)},
		{"2, -3, 6", told(vec.Unit(v3(2, -3, 6))), good(306783378, -460175067, 920350135)},
		{"1, 1, 1", told(vec.Unit(v3(1, 1, 1))), good(619925131, 619925131, 619925131)},
		{"the least above 0", told(vec.Unit(v3(0, 1, 0))), good(0, one, 0)},
		{"the greatest below 0", told(vec.Unit(v3(0, 0, -1))), good(0, 0, -one)},
		{"the greatest", told(vec.Unit(v3(top, -top, top))), good(619925131, -619925131, 619925131)},
		{"the greatest alone", told(vec.Unit(v3(-top, 0, 0))), good(-one, 0, 0)},
		{"1 beside the greatest", told(vec.Unit(v3(top, 1, -1))), good(one, 0, 0)},
		{"less than a half", told(vec.Unit(v3(1<<14-1, top, 1-1<<14))), good(0, one, 0)},
		{"just more than a half", told(vec.Unit(v3(1<<14, top, -1<<14))), good(1, one, -1)},
		{"a root just not 2^45", told(vec.Unit(v3(1<<14, top, shy))), good(1, one, 256)},
		{"a root just above 2^45", told(vec.Unit(v3(1<<14, top, shy+1))), good(0, one, 256)},
		{"of 0", told(vec.Unit(v3(0, 0, 0))), bad(api.ErrZero)},
	})
}

// P3.3: Apply.
func TestApply(t *testing.T) {
	a := v3(2*one, 3*one, -5*one)
	check(t, []row[vector]{
		{"One", told(vec.Apply([9]int64{one, 0, 0, 0, one, 0, 0, 0, one}, v3(top, -top, 1))), good(top, -top, 1)},
		{"0", told(vec.Apply([9]int64{}, v3(top, -top, 1))), good(0, 0, 0)},
		{"row by row", told(vec.Apply([9]int64{1, 10, 100, 2, 20, 200, 3, 30, 300}, a)), good(-468, -936, -1404)},
		{"to other places", told(vec.Apply([9]int64{0, one, 0, 0, 0, one, one, 0, 0}, v3(1, 2, 3))), good(2, 3, 1)},
		{"halves", told(vec.Apply([9]int64{half, 0, 0, 0, half, 0, 0, 0, half}, v3(1, -3, 5))), good(0, -2, 2)},
		{"rounded once", told(vec.Apply([9]int64{half, half, half, -half, -half, -half, half, half, -half}, v3(1, 1, 1))), good(2, -2, 0)},
		{"great parts, small sums", told(vec.Apply([9]int64{top, -top, half, top, -top, one, -top, top, -half}, v3(top, top, 3))), good(2, 3, -2)},
		{"at the ends", told(vec.Apply([9]int64{one, half - 1, 0, -one, 1 - half, 0, 0, 0, 0}, v3(top, 1, 0))), good(top, -top, 0)},
	})
	for i := range 9 {
		a := v3(top, top, top)
		for _, sign := range []int64{1, -1} {
			check(t, []row[vector]{
				{"just beyond", told(vec.Apply(withNumber([9]int64{}, i, sign*(one+1)), a)), bad(api.ErrRange)},
				{"far beyond", told(vec.Apply(withNumber([9]int64{}, i, sign*top), a)), bad(api.ErrRange)},
			})
		}
	}
	check(t, []row[vector]{
		{"the first row beyond", told(vec.Apply([9]int64{one, half}, v3(top, 1, 0))), bad(api.ErrRange)},
		{"the last row beyond", told(vec.Apply([9]int64{7: -half, 6: -one}, v3(top, 1, 0))), bad(api.ErrRange)},
		{"all greatest", told(vec.Apply([9]int64{top, top, top, top, top, top, top, top, top}, v3(top, top, top))), bad(api.ErrRange)},
	})
}

// P3.1 to P3.3: a number that is no word is told ahead of all else, at whatever place: of 0 and of the greatest words too, where there would be another error.
func TestNoWords(t *testing.T) {
	form := bad(api.ErrForm)
	for _, base := range []api.Vec{v3(0, 0, 0), v3(1, 2, 3), v3(top, top, top)} {
		for _, wrong := range wrongOnes() {
			for i := range 3 {
				a := placed(base, i, wrong)
				check(t, []row[vector]{
					{"Add, the first", told(vec.Add(a, base)), form},
					{"Add, the second", told(vec.Add(base, a)), form},
					{"Sub, the first", told(vec.Sub(a, base)), form},
					{"Sub, the second", told(vec.Sub(base, a)), form},
					{"Sub, both", told(vec.Sub(a, a)), form},
					{"Neg", told(vec.Neg(a)), form},
					{"Scale", told(vec.Scale(a, one)), form},
					{"Scale by 0", told(vec.Scale(a, 0)), form},
					{"Scale by the greatest", told(vec.Scale(a, top)), form},
					{"Cross, the first", told(vec.Cross(a, base)), form},
					{"Cross, the second", told(vec.Cross(base, a)), form},
					{"Cross, both", told(vec.Cross(a, a)), form},
					{"Unit", told(vec.Unit(a)), form},
					{"Apply", told(vec.Apply([9]int64{}, a)), form},
					{"Apply of the greatest", told(vec.Apply([9]int64{top, top, top, top, top, top, top, top, top}, a)), form},
				})
				check(t, []row[number]{
					{"Dot, the first", numberTold(vec.Dot(a, base)), badNumber(api.ErrForm)},
					{"Dot, the second", numberTold(vec.Dot(base, a)), badNumber(api.ErrForm)},
					{"Norm", numberTold(vec.Norm(a)), badNumber(api.ErrForm)},
				})
			}
			for i := range 9 {
				check(t, []row[vector]{
					{"Apply, the matrix", told(vec.Apply(withNumber([9]int64{}, i, wrong), base)), form},
					{"Apply, the matrix of One", told(vec.Apply(withNumber([9]int64{one, 0, 0, 0, one, 0, 0, 0, one}, i, wrong), base)), form},
				})
			}
			check(t, []row[vector]{{"Scale, the factor", told(vec.Scale(base, wrong)), form}})
		}
	}
}

// someVectors are of numbers at their edges and between, of all lengths, some of them no words.
func someVectors(count int, seed int64) []api.Vec {
	source := rand.New(rand.NewSource(seed))
	edges := []int64{0, 1, 2, 3, half - 1, half, half + 1, one - 1, one, one + 1, 3 * half, 1<<32 - 1, 1 << 37, 1 << 44, top - 1, top}
	some := func() int64 {
		v := source.Int63() >> (18 + source.Intn(46))
		if source.Intn(3) == 0 {
			v = edges[source.Intn(len(edges))]
		}
		if source.Intn(60) == 0 {
			v = wrongOnes()[source.Intn(5)]
		}
		if source.Intn(2) == 0 {
			return -v
		}
		return v
	}
	list := make([]api.Vec, count)
	for i := range list {
		list[i] = v3(some(), some(), some())
	}
	return list
}

// P3.1 to P3.3, held against numbers of any length.
func TestExactly(t *testing.T) {
	list := someVectors(400, 5)
	seen := map[api.Errno]int{}
	for i, a := range list {
		b, c, d := list[(i+1)%len(list)], list[(i+2)%len(list)], list[(i+3)%len(list)]
		m := [9]int64{b.X, b.Y, b.Z, c.X, c.Y, c.Z, d.X, d.Y, d.Z}
		check(t, []row[number]{{"Norm", numberTold(vec.Norm(a)), wantNorm(a)}})
		rows := []row[vector]{
			{"Neg", told(vec.Neg(a)), wantSub(api.Vec{}, a)},
			{"Unit", told(vec.Unit(a)), wantUnit(a)},
			{"Apply", told(vec.Apply(m, a)), wantApply(m, a)},
		}
		for _, r := range rows {
			seen[r.want.e]++
		}
		check(t, rows)
		if t.Failed() {
			t.Fatalf("of %v and %v", a, m)
		}
		for _, b := range list {
			check(t, []row[number]{{"Dot", numberTold(vec.Dot(a, b)), wantDot(a, b)}})
			check(t, []row[vector]{
				{"Add", told(vec.Add(a, b)), wantAdd(a, b)},
				{"Sub", told(vec.Sub(a, b)), wantSub(a, b)},
				{"Scale", told(vec.Scale(a, b.X)), wantScale(a, b.X)},
				{"Cross", told(vec.Cross(a, b)), wantCross(a, b)},
			})
			if t.Failed() {
				t.Fatalf("of %v and %v", a, b)
			}
		}
	}
	for _, e := range []api.Errno{api.OK, api.ErrForm, api.ErrRange} {
		if seen[e] < 20 {
			t.Errorf("%v only %d times", e, seen[e])
		}
	}
}

// P3.4: Dot goes both ways, Cross the other way round is the negative.
func TestBothWays(t *testing.T) {
	list := someVectors(150, 6)
	for _, a := range list {
		for _, b := range list {
			check(t, []row[number]{{"Dot", numberTold(vec.Dot(a, b)), numberTold(vec.Dot(b, a))}})
			there, back := told(vec.Cross(a, b)), told(vec.Cross(b, a))
			check(t, []row[vector]{{"Cross", there, vector{negative(back.v), back.e}}})
			if t.Failed() {
				t.Fatalf("of %v and %v", a, b)
			}
		}
	}
}

// P3.4: a unit's norm is One, but for rounding: each number is off by at most 1/2, so the root is by at most the root of 3/4, and that is rounded once more: by 1 in all.
func TestUnitsNorm(t *testing.T) {
	seen := 0
	for _, a := range append(someVectors(3000, 7), v3(top, top, top), v3(1, 0, 0), v3(-1, 1, 1)) {
		u, e := vec.Unit(a)
		if e != api.OK {
			continue
		}
		seen++
		n, e := vec.Norm(u)
		if e != api.OK || size(n-one) > 1 {
			t.Fatalf("Norm(Unit(%v)): %d, %v", a, n, e)
		}
	}
	if seen < 1000 {
		t.Errorf("only %d units", seen)
	}
}

// P3.4: Cross stands across both: each of its numbers is off by at most 1/2, so Dot with it is by at most half the sum of the other's numbers, and by its own rounding.
func TestCrossStandsAcross(t *testing.T) {
	list := someVectors(250, 8)
	seen := 0
	for _, a := range list {
		for _, b := range list {
			c, e := vec.Cross(a, b)
			if e != api.OK || c == (api.Vec{}) {
				continue
			}
			for _, side := range []api.Vec{a, b} {
				d, e := vec.Dot(side, c)
				bound := new(big.Int).Add(num(sizes(side)), num(one))
				if e != api.OK || new(big.Int).Mul(num(2*one), num(d)).CmpAbs(bound) > 0 {
					t.Fatalf("Dot(%v, Cross(%v, %v)): %d, %v", side, a, b, d, e)
				}
			}
			seen++
		}
	}
	if seen < 1000 {
		t.Errorf("only %d products", seen)
	}
}
