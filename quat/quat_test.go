package quat_test

import (
	"math"
	"math/big"
	"math/rand"
	"testing"

	"gimbal/api"
	"gimbal/quat"
	"gimbal/vec"
)

const (
	top  = 1<<api.Bits - 1 // the greatest word
	one  = api.One
	half = api.One / 2
)

func q4(w, x, y, z int64) [4]int64 { return [4]int64{w, x, y, z} }

// v3 is a vector with 0 ahead of it.
func v3(x, y, z int64) [4]int64 { return [4]int64{0, x, y, z} }

func toQuat(q [4]int64) api.Quat { return api.Quat{W: q[0], X: q[1], Y: q[2], Z: q[3]} }

func toVec(v [4]int64) api.Vec { return api.Vec{X: v[1], Y: v[2], Z: v[3]} }

func ofQuat(q api.Quat, e api.Errno) answer { return answer{q4(q.W, q.X, q.Y, q.Z), e} }

func ofVec(v api.Vec, e api.Errno) answer { return answer{v3(v.X, v.Y, v.Z), e} }

func ofNumber(v int64, e api.Errno) answer { return answer{q4(v, 0, 0, 0), e} }

func mul(p, q [4]int64) answer  { return ofQuat(quat.Mul(toQuat(p), toQuat(q))) }
func conj(q [4]int64) answer    { return ofQuat(quat.Conj(toQuat(q))) }
func norm(q [4]int64) answer    { return ofNumber(quat.Norm(toQuat(q))) }
func unit(q [4]int64) answer    { return ofQuat(quat.Unit(toQuat(q))) }
func turn(q, v [4]int64) answer { return ofVec(quat.Turn(toQuat(q), toVec(v))) }
func back(q, v [4]int64) answer { return ofVec(quat.Back(toQuat(q), toVec(v))) }

func size(v int64) int64 { return max(v, -v) }

func times(q [4]int64, k int64) [4]int64 {
	for i := range q {
		q[i] *= k
	}
	return q
}

// place is v alone, at place i.
func place(i int, v int64) [4]int64 { return placed([4]int64{}, i, v) }

func placed(q [4]int64, i int, v int64) [4]int64 {
	q[i] = v
	return q
}

// wrongOnes are no words.
func wrongOnes() []int64 {
	return []int64{top + 1, -top - 1, 1 << 62, math.MaxInt64, math.MinInt64}
}

type row struct {
	name      string
	got, want answer
}

func check(t *testing.T, rows []row) {
	t.Helper()
	for _, r := range rows {
		if r.got != r.want {
			t.Errorf("%s: %v, not %v", r.name, r.got, r.want)
		}
	}
}

// P4.1: Check.
func TestCheck(t *testing.T) {
	for _, q := range [][4]int64{q4(0, 0, 0, 0), q4(1, -2, 3, -4), q4(top, top, top, top), q4(-top, -top, -top, -top), q4(-top, 0, top, 1)} {
		if e := quat.Check(toQuat(q)); e != api.OK {
			t.Errorf("Check(%v): %v", q, e)
		}
		for i := range q {
			for _, wrong := range wrongOnes() {
				if e := quat.Check(toQuat(placed(q, i, wrong))); e != api.ErrForm {
					t.Errorf("Check with %d at place %d: %v", wrong, i, e)
				}
			}
		}
	}
}

// basis tells where the product of the numbers at two places comes to stand, and its sign.
func basis(a, b int) (int, int64) {
	places := [4][4]int{{0, 1, 2, 3}, {1, 0, 3, 2}, {2, 3, 0, 1}, {3, 2, 1, 0}}
	signs := [4][4]int64{{1, 1, 1, 1}, {1, -1, 1, -1}, {1, -1, -1, 1}, {1, 1, -1, -1}}
	return places[a][b], signs[a][b]
}

// P4.1: Mul, each number of the one by each of the other: as it is, just between two, at and just beside the ends.
func TestMulPlaceByPlace(t *testing.T) {
	for a := range 4 {
		for b := range 4 {
			i, sign := basis(a, b)
			for _, c := range []struct{ p, q, want int64 }{
				{one, 7, 7}, {3 * one, -5 * one, -15 * one},
				{1, half, 0}, {1, 3 * half, 2}, {half, 5, 2}, {half, 7, 4}, {half + 1, 5, 3}, {half - 1, 3, 1},
				{-1, half, 0}, {1, -3 * half, -2}, {half, -5, -2}, {-half, 7, -4}, {half + 1, -5, -3}, {half - 1, -3, -1},
				{one, top, top}, {-one, top, -top}, {top, one - 1, top - 1<<15}, {1 << 44, 2*one - 1, 1<<45 - 1<<14},
			} {
				check(t, []row{{"Mul", mul(place(a, c.p), place(b, c.q)), answer{place(i, sign*c.want), api.OK}}})
			}
			for _, c := range []struct{ p, q int64 }{{one + 1, top}, {-one - 1, top}, {1 << 44, 2 * one}, {1 << 44, -2 * one}, {top, top}, {-top, top}} {
				check(t, []row{{"Mul beyond", mul(place(a, c.p), place(b, c.q)), bad(api.ErrRange)}})
			}
		}
	}
}

// P4.1: Mul, where all numbers meet.
func TestMul(t *testing.T) {
	const a = 1<<37 - 1 // of two products of such numbers the sum is just a word
	check(t, []row{
		{"ordinary", mul(q4(one, 2*one, 3*one, 4*one), q4(5*one, 6*one, 7*one, 8*one)), good(-60*one, 12*one, 30*one, 24*one)},
		{"the other way round", mul(q4(5*one, 6*one, 7*one, 8*one), q4(one, 2*one, 3*one, 4*one)), good(-60*one, 20*one, 14*one, 32*one)},
		{"by One", mul(q4(top, -top, 1, -1), q4(one, 0, 0, 0)), good(top, -top, 1, -1)},
		{"by -One", mul(q4(-one, 0, 0, 0), q4(top, -top, 1, -1)), good(-top, top, -1, 1)},
		{"by 0", mul(q4(top, -top, top, -top), q4(0, 0, 0, 0)), good(0, 0, 0, 0)},
		{"rounded once", mul(q4(half, half, half, half), q4(1, -1, -1, -1)), good(2, 0, 0, 0)},
		{"great parts, a half", mul(q4(a, a, 0, 1), q4(a, a, 0, -half)), good(0, 1<<45-512, 1<<36+127, 128-1<<36)},
		{"great parts, three halves", mul(q4(a, a, 0, 1), q4(a, a, 0, -3*half)), good(2, 1<<45-512, 3<<36+126, 129-3<<36)},
		{"great parts, just above a half", mul(q4(a, a, 0, 1), q4(a, a, 0, -half-1)), good(1, 1<<45-512, 1<<36+255, -1<<36)},
		{"just within", mul(q4(one, 1, 0, 0), q4(top, 1-half, 0, 0)), good(top, 1<<15+1-half, 0, 0)},
		{"a half above the greatest", mul(q4(one, 1, 0, 0), q4(top, -half, 0, 0)), bad(api.ErrRange)},
		{"just within, below", mul(q4(one, 1, 0, 0), q4(-top, half-1, 0, 0)), good(-top, half-1-1<<15, 0, 0)},
		{"a half below the least", mul(q4(one, 1, 0, 0), q4(-top, half, 0, 0)), bad(api.ErrRange)},
		{"0 beside one beyond", mul(q4(top, top, 0, 0), q4(top, top, 0, 0)), bad(api.ErrRange)},
		{"the greatest", mul(q4(top, top, top, top), q4(top, -top, top, -top)), bad(api.ErrRange)},
	})
}

// P4.1: Conj.
func TestConj(t *testing.T) {
	check(t, []row{
		{"ordinary", conj(q4(1, 2, -3, 4)), good(1, -2, 3, -4)},
		{"below 0", conj(q4(-1, -2, -3, -4)), good(-1, 2, 3, 4)},
		{"of 0", conj(q4(0, 0, 0, 0)), good(0, 0, 0, 0)},
		{"the ends", conj(q4(top, top, -top, top)), good(top, -top, top, -top)},
		{"the least", conj(q4(-top, -top, top, -top)), good(-top, top, -top, top)},
	})
}

// P4.1: Norm. The squares below make just such sums.
func TestNorm(t *testing.T) {
	const k = 1 << 14 // its square is a quarter of One
	check(t, []row{
		{"ordinary", norm(q4(one, -2*one, 3*one, -4*one)), ofNumber(30*one, api.OK)},
		{"of 0", norm(q4(0, 0, 0, 0)), ofNumber(0, api.OK)},
		{"very small", norm(q4(1, -1, 1, -1)), ofNumber(0, api.OK)},
		{"1/2", norm(q4(k, -k, 0, 0)), ofNumber(0, api.OK)},
		{"just above 1/2", norm(q4(k, -k, 0, 1)), ofNumber(1, api.OK)},
		{"3/2", norm(q4(0, 2*k, k, -k)), ofNumber(2, api.OK)},
		{"5/2", norm(q4(0, 3*k, 0, k)), ofNumber(2, api.OK)},
		{"7/2", norm(q4(k, -2*k, -3*k, 0)), ofNumber(4, api.OK)},
		{"a half above the greatest", norm(q4(194368028672, 35946496, 983040, 16384)), bad(api.ErrRange)},
		{"just below it", norm(q4(194368031998, 425523, 1641, 671)), ofNumber(top, api.OK)},
		{"a half below the greatest", norm(q4(2211840, 1769472, -194368028672, 35848192)), ofNumber(top-1, api.OK)},
		{"just above that", norm(q4(-890, 1373, 194368031998, 424260)), ofNumber(top, api.OK)},
		{"2^45", norm(q4(0, 1<<37, 0, 1<<37)), bad(api.ErrRange)},
		{"the greatest", norm(q4(top, -top, top, -top)), bad(api.ErrRange)},
	})
	for i := range 4 {
		check(t, []row{
			{"alone", norm(place(i, -3*one)), ofNumber(9*one, api.OK)},
			{"the greatest alone", norm(place(i, top)), bad(api.ErrRange)},
		})
	}
}

// P4.1: Unit.
func TestUnit(t *testing.T) {
	check(t, []row{
		{"3, 0, 4, 0", unit(q4(3, 0, 4, 0)), good(644245094, 0, 858993459, 0)},
		{"1, -1, 5, -3", unit(q4(1, -1, 5, -3)), good(178956971, -178956971, 894784853, -536870912)},
		{"1, 1, 1, 1", unit(q4(1, 1, 1, 1)), good(half, half, half, half)},
		{"the greatest", unit(q4(top, -top, top, -top)), good(half, -half, half, -half)},
		{"1 beside the greatest", unit(q4(1, top, -1, 0)), good(0, one, 0, 0)},
		{"less than a half", unit(q4(1<<14-1, top, 1-1<<14, 0)), good(0, one, 0, 0)},
		{"just more than a half", unit(q4(1<<14, 0, -1<<14, -top)), good(1, 0, -1, -one)},
		{"of 0", unit(q4(0, 0, 0, 0)), bad(api.ErrZero)},
	})
	for i := range 4 {
		for _, v := range []int64{1, -1, 2, 5, one, -one - 1, top, -top} {
			want := int64(one)
			if v < 0 {
				want = -one
			}
			check(t, []row{{"alone", unit(place(i, v)), answer{place(i, want), api.OK}}})
		}
	}
}

// P4.2: Turn, and Back as the other way round.
func TestTurn(t *testing.T) {
	for _, c := range []struct {
		name       string
		q, v, want [4]int64
	}{
		{"a quarter about z", q4(one, 0, 0, one), v3(one, 0, 0), v3(0, one, 0)},
		{"a quarter about x", q4(one, one, 0, 0), v3(0, one, 0), v3(0, 0, one)},
		{"a quarter about y", q4(one, 0, one, 0), v3(0, 0, one), v3(one, 0, 0)},
		{"a half about x", q4(0, 7, 0, 0), v3(1, 2, 3), v3(1, -2, -3)},
		{"a half about y", q4(0, 0, -7, 0), v3(1, 2, 3), v3(-1, 2, -3)},
		{"a half about z", q4(0, 0, 0, 7), v3(1, 2, 3), v3(-1, -2, 3)},
		{"a third about 1, 1, 1", q4(1, 1, 1, 1), v3(1, 2, 3), v3(3, 1, 2)},
		{"no turn", q4(-5, 0, 0, 0), v3(top, -top, 1), v3(top, -top, 1)},
		{"of very small words", q4(2, 0, 0, 1), v3(10, 0, 0), v3(6, 8, 0)},
		{"of very small words, all", q4(1, 2, -3, 4), v3(30, -60, 90), v3(50, -68, 74)},
		{"of the greatest words", q4(top, 0, 0, top), v3(top, top, 0), v3(-top, top, 0)},
		{"of the greatest words, all", q4(-top, top, -top, top), v3(top, 1, -top), v3(-top, -top, -1)},
		{"0", q4(1, 2, 3, 4), v3(0, 0, 0), v3(0, 0, 0)},
	} {
		there := toQuat(c.q)
		again := api.Quat{W: there.W, X: -there.X, Y: -there.Y, Z: -there.Z}
		want := answer{c.want, api.OK}
		check(t, []row{
			{"Turn, " + c.name, turn(c.q, c.v), want},
			{"Back by the conjugate, " + c.name, ofVec(quat.Back(again, toVec(c.v))), want},
			{"Back, " + c.name, back(c.q, c.want), answer{c.v, api.OK}},
		})
	}
	check(t, []row{
		{"0.6 and 0.8", turn(q4(2, 0, 0, 1), v3(1, 0, 0)), goodVec(1, 1, 0)},
		{"1.8 and 2.4", turn(q4(2, 0, 0, 1), v3(3, 0, 0)), goodVec(2, 2, 0)},
		{"-1.8 and -2.4", turn(q4(2, 0, 0, 1), v3(-3, 0, 0)), goodVec(-2, -2, 0)},
		{"far beyond", turn(q4(12, 0, 0, 5), v3(top, top, 0)), bad(api.ErrRange)},
		{"far beyond, back", back(q4(12, 0, 0, -5), v3(top, top, 0)), bad(api.ErrRange)},
	})
}

// axes are the cycles of the three numbers: what holds about z does about x and y.
func axes(x, y, z int64) [3][4]int64 {
	return [3][4]int64{v3(x, y, z), v3(z, x, y), v3(y, z, x)}
}

// P4.2: by 12 and 5 about z X is (119 x - 120 y) / 169: at the greatest word, and beside it by just less and just more than a half.
func TestTurnAtTheEnds(t *testing.T) {
	for i, q := range axes(0, 0, 5) {
		q[0] = 12
		for _, c := range []struct {
			back   int64 // x is so much less than the greatest word
			beyond int64 // what is above it, of 169
			want   int64
		}{
			{0, 10, top}, {74, 84, top}, {64, 74, top}, {26, -84, top}, {25, -85, top - 1},
		} {
			x := int64(top) - c.back
			y := -(50*top + 119*c.back + c.beyond) / 120
			if 119*x-120*y != 169*top+c.beyond {
				t.Fatalf("%d, %d: not as said", c.back, c.beyond)
			}
			v := axes(x, y, 0)[i]
			told := turn(q, v)
			if told.e != api.OK || told.v[1+i] != c.want {
				t.Errorf("%d, %d: %v", c.back, c.beyond, told)
			}
			if below := turn(q, times(v, -1)); below.v != times(told.v, -1) || below.e != api.OK {
				t.Errorf("%d, %d, below 0: %v", c.back, c.beyond, below)
			}
		}
		x := int64(top) - 75
		beyond := axes(x, -(50*top+119*75+85)/120, 0)[i]
		check(t, []row{
			{"just beyond", turn(q, beyond), bad(api.ErrRange)},
			{"just beyond, below 0", turn(q, times(beyond, -1)), bad(api.ErrRange)},
			{"just beyond, back", back(ofQuat(quat.Conj(toQuat(q))).v, beyond), bad(api.ErrRange)},
		})
	}
}

// P4.2: about z X is ((w w - z z) x - 2 w z y) / n: an x is found with which it lies beside the middle between two by 1 / 2n alone.
func TestTurnBesideTheMiddle(t *testing.T) {
	source := rand.New(rand.NewSource(9))
	seen := 0
	for seen < 200 {
		w, z := source.Int63n(1<<22), source.Int63n(1<<22)
		n, c := num(w*w+z*z), num(w*w-z*z)
		inverse := new(big.Int).ModInverse(c, n)
		if n.Bit(0) == 0 || inverse == nil {
			continue
		}
		for _, side := range []int64{-1, 1} {
			middle := num((n.Int64() + side) / 2)
			x := middle.Mod(middle.Mul(middle, inverse), n).Int64()
			if !isWord(x) {
				continue
			}
			seen++
			for _, v := range [][4]int64{v3(x, 0, 0), v3(-x, 0, 0)} {
				q := q4(w, 0, 0, z)
				check(t, []row{{"Turn", turn(q, v), wantTurn(q, v)}, {"Back", back(q, v), wantBack(q, v)}})
			}
		}
	}
}

// P4.1, P4.2: a number that is no word is told ahead of all else, at whatever place: of 0 and of the greatest words too, where there would be another error.
func TestNoWords(t *testing.T) {
	form := bad(api.ErrForm)
	for _, base := range [][4]int64{q4(0, 0, 0, 0), q4(1, 2, 3, 4), q4(top, top, top, top)} {
		v := placed(base, 0, 0)
		for _, wrong := range wrongOnes() {
			for i := range 4 {
				q := placed(base, i, wrong)
				check(t, []row{
					{"Mul, the first", mul(q, base), form},
					{"Mul, the second", mul(base, q), form},
					{"Mul, both", mul(q, q), form},
					{"Conj", conj(q), form},
					{"Norm", norm(q), form},
					{"Unit", unit(q), form},
					{"Turn", turn(q, v), form},
					{"Back", back(q, v), form},
				})
			}
			for i := range 3 {
				check(t, []row{
					{"Turn, the vector", turn(base, placed(v, 1+i, wrong)), form},
					{"Back, the vector", back(base, placed(v, 1+i, wrong)), form},
				})
			}
		}
	}
	for _, v := range [][4]int64{v3(0, 0, 0), v3(1, 2, 3), v3(top, -top, top)} {
		check(t, []row{
			{"Turn by 0", turn(q4(0, 0, 0, 0), v), bad(api.ErrZero)},
			{"Back by 0", back(q4(0, 0, 0, 0), v), bad(api.ErrZero)},
		})
	}
}

// some are four numbers at their edges and between, of one length or of any, some of them no words.
func some(count int, seed int64) [][4]int64 {
	source := rand.New(rand.NewSource(seed))
	edges := []int64{0, 1, 2, 3, half - 1, half, half + 1, one - 1, one, one + 1, 3 * half, 1<<32 - 1, 1 << 37, 1 << 44, top - 1, top}
	list := make([][4]int64, count)
	for i := range list {
		bits := 18 + source.Intn(46)
		for j := range list[i] {
			if source.Intn(4) == 0 {
				bits = 18 + source.Intn(46)
			}
			v := source.Int63() >> bits
			if source.Intn(4) == 0 {
				v = edges[source.Intn(len(edges))]
			}
			if source.Intn(80) == 0 {
				v = wrongOnes()[source.Intn(5)]
			}
			if source.Intn(2) == 0 {
				v = -v
			}
			list[i][j] = v
		}
	}
	return append(list, q4(0, 0, 0, 0), q4(top, top, top, top), q4(top, -top, top-1, 1-top))
}

// P4.1, P4.2, held against numbers of any length.
func TestExactly(t *testing.T) {
	list := some(100, 5)
	seen := map[api.Errno]int{}
	for _, p := range list {
		check(t, []row{{"Conj", conj(p), wantConj(p)}, {"Norm", norm(p), wantNorm(p)}, {"Unit", unit(p), wantUnit(p)}})
		for _, q := range list {
			v := placed(q, 0, 0)
			rows := []row{
				{"Mul", mul(p, q), wantMul(p, q)},
				{"Turn", turn(p, v), wantTurn(p, v)},
				{"Back", back(p, v), wantBack(p, v)},
			}
			for _, r := range rows {
				seen[r.want.e]++
			}
			check(t, rows)
			if t.Failed() {
				t.Fatalf("of %v and %v", p, q)
			}
		}
	}
	for _, e := range []api.Errno{api.OK, api.ErrForm, api.ErrRange, api.ErrZero} {
		if seen[e] < 100 {
			t.Errorf("%v only %d times", e, seen[e])
		}
	}
}

// turns goes through quaternions and vectors that can be turned by them.
func turns(t *testing.T, each func(q, v, turned [4]int64)) {
	t.Helper()
	list := some(120, 6)
	seen := 0
	for _, q := range list {
		for _, v := range list {
			v[0] = 0
			if told := turn(q, v); told.e == api.OK {
				seen++
				each(q, v, told.v)
			}
		}
	}
	if seen < 5000 {
		t.Errorf("only %d turns", seen)
	}
}

// P4.3: Turn rounds each number by at most 1/2, by 0.87 as a length; so each number that comes back is off by at most 0.87 and its own rounding: by 1.
func TestBackOfTurn(t *testing.T) {
	turns(t, func(q, v, turned [4]int64) {
		again := back(q, turned)
		if again.e == api.ErrRange && (size(v[1]) == top || size(v[2]) == top || size(v[3]) == top) {
			return
		}
		for i := range again.v {
			if again.e != api.OK || size(again.v[i]-v[i]) > 1 {
				t.Fatalf("Back of Turn(%v, %v): %v", q, v, again)
			}
		}
	})
}

// P4.3: a length is off by at most 0.87 and the roundings of both norms: by 1.
func TestTurnKeepsNorms(t *testing.T) {
	turns(t, func(q, v, turned [4]int64) {
		n, e := vec.Norm(toVec(v))
		m, f := vec.Norm(toVec(turned))
		if e == api.OK && f == api.OK && size(n-m) > 1 {
			t.Fatalf("Norm of Turn(%v, %v): %d, not %d", q, v, m, n)
		}
		if e != f && max(n, m) < top {
			t.Fatalf("Norm of Turn(%v, %v): %v and %v", q, v, e, f)
		}
	})
}

// P4.3: of two vectors that are each off by 0.87 the product is off by at most that much of both lengths, over One, and the roundings of both products.
func TestTurnKeepsDots(t *testing.T) {
	fixed := [][4]int64{v3(one, -2*one, 3), v3(1, 1, 1), v3(-top/2, 5, top/4), v3(1<<37, -1<<37, 1<<36)}
	turns(t, func(q, v, turned [4]int64) {
		for _, u := range fixed {
			other := turn(q, u)
			d, e := vec.Dot(toVec(v), toVec(u))
			f, g := vec.Dot(toVec(turned), toVec(other.v))
			bound := 2 + (size(v[1])+size(v[2])+size(v[3])+size(u[1])+size(u[2])+size(u[3])+1)/one
			if other.e == api.OK && e == api.OK && g == api.OK && size(d-f) > bound {
				t.Fatalf("Dot of Turn(%v, %v): %d, not %d", q, v, f, d)
			}
			if other.e == api.OK && e != g && max(size(d), size(f)) < top-bound {
				t.Fatalf("Dot of Turn(%v, %v): %v and %v", q, v, e, g)
			}
		}
	})
}

// P4.3: by q and by -q the same, errors too.
func TestTurnByTheNegative(t *testing.T) {
	list := some(120, 7)
	for _, q := range list {
		for _, v := range list {
			check(t, []row{{"Turn", turn(times(q, -1), v), turn(q, v)}, {"Back", back(times(q, -1), v), back(q, v)}})
		}
	}
}

// Each number of a unit is off by at most 1/2, so its length is by at most 1, and the sum of its squares, over One, by 2 and a rounding.
func TestUnitsNorm(t *testing.T) {
	for _, q := range some(2000, 8) {
		u := unit(q)
		if u.e == api.OK && size(norm(u.v).v[0]-one) > 3 {
			t.Fatalf("Norm of Unit(%v): %v", q, norm(u.v))
		}
	}
}
