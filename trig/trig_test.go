package trig_test

import (
	"math"
	"math/big"
	"math/rand"
	"testing"

	"gimbal/api"
	"gimbal/trig"
)

const (
	top     = 1<<api.Bits - 1 // the greatest word
	quarter = 1 << 30
)

// angles are those at the quarters and eighths of a turn and just beside them, and many between.
func angles() []uint32 {
	var list []uint32
	for k := uint32(0); k < 8; k++ {
		for _, d := range []uint32{0, 1, 2, 3, 20860, 20861, 20862, 1 << 16} {
			list = append(list, k<<29+d, k<<29-d)
		}
	}
	for k := uint32(1); k < 12; k++ {
		list = append(list, k*357913941, k*357913941+k)
	}
	source := rand.New(rand.NewSource(3))
	for range 400 {
		list = append(list, source.Uint32(), source.Uint32()>>source.Intn(32))
	}
	return list
}

type wave struct {
	a        uint32
	sin, cos int64
}

func checkWaves(t *testing.T, rows []wave) {
	t.Helper()
	for _, r := range rows {
		if s, c := trig.Sin(r.a), trig.Cos(r.a); s != r.sin || c != r.cos {
			t.Errorf("%d: %d, %d, not %d, %d", r.a, s, c, r.sin, r.cos)
		}
	}
}

// P2.1: at the quarters, the eighths, and just beside them.
func TestWavesAtQuarters(t *testing.T) {
	const one, eighth = api.One, 759250125
	checkWaves(t, []wave{
		{0, 0, one},
		{1, 2, one},
		{2, 3, one},
		{3, 5, one},
		{1<<29 - 1, eighth - 1, eighth + 1},
		{1 << 29, eighth, eighth},
		{1<<29 + 1, eighth + 1, eighth - 1},
		{quarter - 1, one, 2},
		{quarter, one, 0},
		{quarter + 1, one, -2},
		{3 << 29, eighth, -eighth},
		{1<<31 - 1, 2, -one},
		{1 << 31, 0, -one},
		{1<<31 + 1, -2, -one},
		{5 << 29, -eighth, -eighth},
		{3<<30 - 1, -one, -2},
		{3 << 30, -one, 0},
		{3<<30 + 1, -one, 2},
		{7 << 29, -eighth, eighth},
		{math.MaxUint32, -2, one},
		{357913941, 536870912, 929887697},
		{20860, 32767, one},
		{20861, 32768, one - 1},
		{quarter - 20860, one, 32767},
		{quarter + 20861, one - 1, -32768},
	})
}

// P2.1: the angles of which the sine, or the cosine, lies nearest to the middle between two numbers: by a ten thousand millionth of a unit.
func TestWavesNearTheMiddle(t *testing.T) {
	for _, r := range []struct {
		wave func(uint32) int64
		a    uint32
		want int64
	}{
		{trig.Sin, 323041666, 488754536},
		{trig.Sin, 206848527, 319980882},
		{trig.Sin, 507409752, 725832071},
		{trig.Sin, 182578574, 283395867},
		{trig.Cos, 188148563, 1033324449},
		{trig.Cos, 277385342, 986543287},
		{trig.Cos, 306825778, 967379056},
		{trig.Sin, 1<<31 - 323041666, 488754536},
		{trig.Sin, 1<<31 + 323041666, -488754536},
		{trig.Cos, 1<<31 - 188148563, -1033324449},
		{trig.Sin, quarter + 188148563, 1033324449},
		{trig.Cos, quarter + 507409752, -725832071},
	} {
		if got := r.wave(r.a); got != r.want {
			t.Errorf("%d: %d, not %d", r.a, got, r.want)
		}
	}
}

// P2.1: held against numbers of any length.
func TestWavesExactly(t *testing.T) {
	for _, a := range angles() {
		sine, cosine := turned(2 * int64(a))
		checkWaves(t, []wave{{a, inQ30(sine), inQ30(cosine)}})
	}
}

type point struct {
	y, x int64
	want uint32
}

func checkPoints(t *testing.T, rows []point) {
	t.Helper()
	for _, r := range rows {
		if a, e := trig.Atan(r.y, r.x); a != r.want || e != api.OK {
			t.Errorf("Atan(%d, %d): %d, %v, not %d", r.y, r.x, a, e, r.want)
		}
	}
}

// P2.2: on the axes, between them, and just beside them.
func TestPointsAtAxes(t *testing.T) {
	const far = 1367130551 // 2^32 / pi, rounded down: what is farther along its axis is on it
	checkPoints(t, []point{
		{0, 1, 0},
		{0, top, 0},
		{1, 1, 1 << 29},
		{1, 0, quarter},
		{top, 0, quarter},
		{top, -top, 3 << 29},
		{0, -5, 1 << 31},
		{0, -top, 1 << 31},
		{-7, -7, 5 << 29},
		{-1, 0, 3 << 30},
		{-top, 0, 3 << 30},
		{-top, top, 7 << 29},
		{1, 2, 316933406},
		{2, 1, quarter - 316933406},
		{2, -1, quarter + 316933406},
		{1, -2, 1<<31 - 316933406},
		{-1, -2, 1<<31 + 316933406},
		{-2, -1, 3<<30 - 316933406},
		{-2, 1, 3<<30 + 316933406},
		{-1, 2, math.MaxUint32 - 316933406 + 1},
		{1, top, 0},
		{-1, top, 0},
		{top, 1, quarter},
		{top, -1, quarter},
		{1, -top, 1 << 31},
		{-1, -top, 1 << 31},
		{-top, -1, 3 << 30},
		{-top, 1, 3 << 30},
		{1, far, 1},
		{1, far + 1, 0},
		{-1, far, math.MaxUint32},
		{-1, far + 1, 0},
		{far, 1, quarter - 1},
		{far + 1, 1, quarter},
		{1, -far, 1<<31 - 1},
		{-1, -far - 1, 1 << 31},
		{-far, -1, 3<<30 - 1},
		{-far, 1, 3<<30 + 1},
		{top - 1, top, 1 << 29},
		{top, 1 - top, 3 << 29},
		{far * 16, far*16 + 2, 1 << 29},
	})
}

// P2.2: what is no word, and what is no point.
func TestPointsThatAreNone(t *testing.T) {
	const least, greatest = math.MinInt64, math.MaxInt64
	for _, r := range []struct {
		y, x int64
		want api.Errno
	}{
		{0, 0, api.ErrZero},
		{top + 1, 0, api.ErrForm},
		{0, top + 1, api.ErrForm},
		{-top - 1, 0, api.ErrForm},
		{0, -top - 1, api.ErrForm},
		{1, top + 1, api.ErrForm},
		{top + 1, top + 1, api.ErrForm},
		{greatest, 1, api.ErrForm},
		{1, greatest, api.ErrForm},
		{least, 1, api.ErrForm},
		{1, least, api.ErrForm},
		{least, least, api.ErrForm},
		{least, 0, api.ErrForm},
		{0, least, api.ErrForm},
		{greatest, least, api.ErrForm},
	} {
		if a, e := trig.Atan(r.y, r.x); a != 0 || e != r.want {
			t.Errorf("Atan(%d, %d): %d, %v, not %v", r.y, r.x, a, e, r.want)
		}
	}
}

// points are of all quarters: with numbers alike, and with one far greater than the other.
func points() [][2]int64 {
	source := rand.New(rand.NewSource(4))
	var list [][2]int64
	for range 200 {
		y := source.Int63n(top)>>source.Intn(45) + 1
		x := source.Int63n(top)>>source.Intn(45) + 1
		list = append(list, [2]int64{y, x}, [2]int64{-y, x}, [2]int64{y, -x}, [2]int64{-y, -x})
	}
	return list
}

// P2.2: held against numbers of any length.
func TestPointsExactly(t *testing.T) {
	for _, p := range points() {
		if a, e := trig.Atan(p[0], p[1]); e != api.OK || !isAngle(a, p[0], p[1]) {
			t.Errorf("Atan(%d, %d): %d, %v", p[0], p[1], a, e)
		}
	}
}

// P2.2: points that lie nearest to the middle between two angles, on either side: the fractions that come nearest to the tangent of that middle.
func TestPointsNearTheMiddle(t *testing.T) {
	for _, k := range []int64{0, 1, 2, 1000, 99999999, 214748364, 1<<29 - 1, 1 << 29, 1<<29 + 1, 800000000, quarter - 2, quarter - 1} {
		sine, cosine := turned(2*k + 1)
		last, now := [2]int64{1, 0}, [2]int64{0, 1} // y and x of a fraction
		for n := 0; cosine.Sign() > 0; n++ {
			part, rest := new(big.Int).QuoRem(sine, cosine, new(big.Int))
			if !part.IsInt64() || part.Int64() > top {
				break
			}
			f := part.Int64()
			y, overY := grown(f, last[0], now[0])
			x, overX := grown(f, last[1], now[1])
			if overY || overX {
				break
			}
			now, last = last, [2]int64{y, x}
			if x > 0 {
				checkNear(t, y, x, k, n%2 == 1)
			}
			sine, cosine = cosine, rest
		}
	}
}

// grown is f a + b, and if it is no word.
func grown(f, a, b int64) (int64, bool) {
	v := new(big.Int).Mul(whole(f), whole(a))
	v.Add(v, whole(b))
	return v.Int64(), v.CmpAbs(whole(top)) > 0
}

// checkNear: every other fraction lies above what they come near to. The first ones are not near enough to be of k.
func checkNear(t *testing.T, y, x, k int64, above bool) {
	t.Helper()
	if (side(y, x, 2*k+1) > 0) != above {
		t.Fatalf("%d / %d is on the wrong side of %d halves", y, x, 2*k+1)
	}
	want := uint32(k)
	if above {
		want++
	}
	if x < 1<<35 && y < 1<<35 {
		if a, _ := trig.Atan(y, x); !isAngle(a, y, x) {
			t.Errorf("Atan(%d, %d): %d", y, x, a)
		}
		return
	}
	checkPoints(t, []point{
		{y, x, want},
		{x, y, quarter - want},
		{y, -x, 1<<31 - want},
		{-y, -x, 1<<31 + want},
		{-y, x, -want},
	})
}

// P2.3: of the negative, and a quarter of a turn further.
func TestWavesFollow(t *testing.T) {
	for _, a := range angles() {
		s, c := trig.Sin(a), trig.Cos(a)
		if trig.Sin(-a) != -s || trig.Cos(-a) != c {
			t.Errorf("%d: %d, %d; its negative: %d, %d", a, s, c, trig.Sin(-a), trig.Cos(-a))
		}
		if trig.Sin(a+quarter) != c || trig.Cos(a+quarter) != -s {
			t.Errorf("%d: %d, %d; a quarter further: %d, %d", a, s, c, trig.Sin(a+quarter), trig.Cos(a+quarter))
		}
	}
}

// P2.3: the squares are together 1, but for rounding: each number is off by at most 1/2, so the sum of its squares by |s| + |c| + 1/2.
func TestSquaresTogether(t *testing.T) {
	for _, a := range angles() {
		s, c := trig.Sin(a), trig.Cos(a)
		off := s*s + c*c - api.One*api.One
		if bound := max(s, -s) + max(c, -c) + 1; off > bound || off < -bound {
			t.Errorf("%d: %d, %d", a, s, c)
		}
	}
}

// P2.3: a multiple of a point has its angle, and the angle leads back to the point.
func TestAnglesOfMultiples(t *testing.T) {
	for _, p := range points() {
		a, e := trig.Atan(p[0], p[1])
		for _, k := range []int64{2, 3, 5, 1000, 1 << 20} {
			y, x := p[0]*k, p[1]*k
			if max(p[0], -p[0], p[1], -p[1]) > top/k {
				continue
			}
			if b, f := trig.Atan(y, x); b != a || f != e {
				t.Errorf("Atan(%d, %d): %d, %v; %d times: %d, %v", p[0], p[1], a, e, k, b, f)
			}
		}
	}
	for _, a := range angles() {
		b, e := trig.Atan(trig.Sin(a), trig.Cos(a))
		if d := int32(b - a); e != api.OK || d > 1 || d < -1 {
			t.Errorf("Atan of %d's sine and cosine: %d, %v", a, b, e)
		}
	}
}
