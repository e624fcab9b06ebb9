package wide

import (
	"math"
	"math/big"
	"math/rand"
	"testing"

	"gimbal/api"
)

const top = 1<<api.Bits - 1 // the greatest word

func power(n uint) *big.Int { return new(big.Int).Lsh(big.NewInt(1), n) }

// toBig tells a wide number as one of the library, which it is held against.
func toBig(a Int) *big.Int {
	v := new(big.Int)
	for i := limbs - 1; i >= 0; i-- {
		v.Lsh(v, limbBits)
		v.Or(v, new(big.Int).SetUint64(a[i]))
	}
	return wrapped(v)
}

// wrapped is v modulo 2^192, from -2^191 on.
func wrapped(v *big.Int) *big.Int {
	v = new(big.Int).Mod(v, power(192))
	if v.Cmp(power(191)) >= 0 {
		v.Sub(v, power(192))
	}
	return v
}

func fromBig(v *big.Int) Int {
	var a Int
	rest := new(big.Int).Mod(v, power(192))
	for i := range a {
		a[i] = new(big.Int).And(rest, new(big.Int).SetUint64(math.MaxUint64)).Uint64()
		rest.Rsh(rest, limbBits)
	}
	return a
}

// rounded is R(n / d), d being above 0.
func rounded(n, d *big.Int) *big.Int {
	twice := new(big.Int).Lsh(d, 1)
	sum := new(big.Int).Add(new(big.Int).Lsh(n, 1), d)
	q, rest := new(big.Int).DivMod(sum, twice, new(big.Int))
	if rest.Sign() == 0 && q.Bit(0) == 1 {
		q.Sub(q, big.NewInt(1))
	}
	return q
}

// samples are numbers whose limbs are all ones, all zeros, or one bit, where carries run, and others.
func samples() []Int {
	parts := []uint64{0, 1, 2, 1<<29 - 1, 1 << 29, 1<<30 - 1, 1 << 30, 3 << 29, 1 << 63, 1<<63 - 1, math.MaxUint64 - 1, math.MaxUint64}
	source := rand.New(rand.NewSource(3))
	list := []Int{{}, {1}, Of(-1), Of(math.MinInt64), Of(math.MaxInt64), {0, 1}, {0, 0, 1}, {0, 0, 1 << 63}}
	for range 60 {
		var a Int
		for i := range a {
			a[i] = parts[source.Intn(len(parts))]
		}
		list = append(list, a, Int{source.Uint64(), source.Uint64(), source.Uint64()})
	}
	return list
}

func int64s() []int64 {
	list := []int64{0, math.MinInt64, math.MinInt64 + 1, math.MaxInt64}
	for _, v := range []int64{1, 2, 3, 1<<31 - 1, 1 << 32, top - 1, top, top + 1, 1 << 62} {
		list = append(list, v, -v)
	}
	return list
}

func same(t *testing.T, name string, got Int, want *big.Int) {
	t.Helper()
	if toBig(got).Cmp(want) != 0 {
		t.Fatalf("%s: %v, not %v", name, toBig(got), want)
	}
}

func TestOfAndProduct(t *testing.T) {
	for _, a := range int64s() {
		same(t, "Of", Of(a), big.NewInt(a))
		for _, b := range int64s() {
			same(t, "Product", Product(a, b), new(big.Int).Mul(big.NewInt(a), big.NewInt(b)))
		}
	}
}

func TestSumsAndMultiples(t *testing.T) {
	for _, a := range samples() {
		x := toBig(a)
		same(t, "Neg", a.Neg(), wrapped(new(big.Int).Neg(x)))
		if a.Sign() != x.Sign() {
			t.Fatalf("Sign of %v: %d", x, a.Sign())
		}
		for _, b := range samples() {
			y := toBig(b)
			same(t, "Plus", a.Plus(b), wrapped(new(big.Int).Add(x, y)))
			same(t, "Minus", a.Minus(b), wrapped(new(big.Int).Sub(x, y)))
			factor := new(big.Int).SetUint64(b[0])
			same(t, "Times", a.Times(b[0]), wrapped(new(big.Int).Mul(x, factor)))
		}
	}
}

func TestByAndSum(t *testing.T) {
	list := samples()
	for i, a := range list {
		for _, k := range int64s() {
			same(t, "By", a.By(k), wrapped(new(big.Int).Mul(toBig(a), big.NewInt(k))))
		}
		b := list[(i+1)%len(list)]
		want := new(big.Int).Mul(toBig(a), big.NewInt(math.MinInt64))
		want.Add(want, new(big.Int).Mul(toBig(b), big.NewInt(7)))
		same(t, "Sum of wide ones", Sum([]Int{a, b}, []int64{math.MinInt64, 7}, Int.By), wrapped(want))
	}
	same(t, "Sum of words", Sum([]int64{top, 2, -top, 3}, []int64{top, 10, top, -1}, Product), big.NewInt(17))
	same(t, "Sum of nothing", Sum([]int64{}, nil, Product), new(big.Int))
}

func TestNearest(t *testing.T) {
	for _, c := range []struct{ a, want int64 }{
		{0, 0}, {1, 0}, {2, 0}, {3, 1}, {4, 1}, {5, 1}, {6, 2}, {7, 2}, {9, 2}, {10, 2}, {11, 3}, {14, 4},
		{-1, 0}, {-2, 0}, {-3, -1}, {-5, -1}, {-6, -2}, {-7, -2}, {-9, -2}, {-10, -2}, {-11, -3}, {-14, -4},
	} {
		same(t, "Nearest by 4", Of(c.a).Nearest(2), big.NewInt(c.want))
	}
	edge := power(190)
	for _, a := range samples() {
		x := toBig(a)
		if x.CmpAbs(edge) > 0 {
			continue
		}
		for _, n := range []int{1, 2, 29, 30, 31, 63} {
			same(t, "Nearest", a.Nearest(n), rounded(x, power(uint(n))))
		}
	}
}

func TestWord(t *testing.T) {
	for _, a := range append(samples(), Of(top), Of(-top), Of(top+1), Of(-top-1), Int{top, 1}, Int{top, 0, 1}) {
		v, e := a.Word()
		want, wantE := int64(0), api.ErrRange
		if x := toBig(a); x.CmpAbs(power(api.Bits)) < 0 {
			want, wantE = x.Int64(), api.OK
		}
		if v != want || e != wantE {
			t.Fatalf("Word of %v: %d, %v", toBig(a), v, e)
		}
	}
}

func TestOverBetweenTwo(t *testing.T) {
	for _, c := range []struct{ a, n, want int64 }{
		{0, 1, 0}, {0, 7, 0}, {7, 1, 7}, {1, 2, 0}, {3, 2, 2}, {5, 2, 2}, {7, 2, 4}, {1, 3, 0}, {2, 3, 1}, {4, 8, 0}, {12, 8, 2},
		{-7, 1, -7}, {-1, 2, 0}, {-3, 2, -2}, {-5, 2, -2}, {-7, 2, -4}, {-1, 3, 0}, {-2, 3, -1}, {-4, 8, 0}, {-12, 8, -2},
	} {
		same(t, "Over", Of(c.a).Over(Of(c.n)), big.NewInt(c.want))
	}
}

// divisors are from 1 to below 2^92.
func divisors() []*big.Int {
	greatest := new(big.Int).Sub(power(92), big.NewInt(1))
	return []*big.Int{big.NewInt(1), big.NewInt(2), big.NewInt(3), power(31), power(64), power(91), greatest}
}

func TestOver(t *testing.T) {
	source := rand.New(rand.NewSource(5))
	for _, n := range divisors() {
		limit := new(big.Int).Mul(n, power(46))
		list := []*big.Int{new(big.Int), big.NewInt(1), n, new(big.Int).Sub(limit, big.NewInt(1))}
		for range 200 {
			a := new(big.Int).Rand(source, limit)
			a.Rsh(a, uint(source.Intn(138)))
			// and at and just beside the middle between two
			middle := new(big.Int).Add(new(big.Int).Mul(n, big.NewInt(source.Int63n(top))), new(big.Int).Rsh(n, 1))
			list = append(list, a, middle, new(big.Int).Add(middle, big.NewInt(1)))
		}
		for _, a := range list {
			same(t, "Over", fromBig(a).Over(fromBig(n)), rounded(a, n))
			a = new(big.Int).Neg(a)
			same(t, "Over below 0", fromBig(a).Over(fromBig(n)), rounded(a, n))
		}
	}
}

func TestUnit(t *testing.T) {
	for _, c := range []struct{ v, n, want int64 }{
		{3, 25, 644245094}, {-4, 25, -858993459}, {0, 5, 0}, {1, 1, api.One}, {-1, 1, -api.One}, {1, 4, api.One / 2}, {-1, 3, -619925131},
	} {
		same(t, "Unit", Unit(c.v, Of(c.n)), big.NewInt(c.want))
	}
	n := Product(top, top).Times(4)
	same(t, "Unit of the greatest", Unit(top, n), big.NewInt(api.One/2))
	same(t, "Unit of the least", Unit(-top, n), big.NewInt(-api.One/2))
	same(t, "Unit of 1 beside the greatest", Unit(1, n), new(big.Int))
}

func TestRootBetweenTwo(t *testing.T) {
	for _, c := range []struct{ p, n, want int64 }{
		{0, 1, 0}, {1, 1, 1}, {2, 1, 1}, {3, 1, 2}, {6, 1, 2}, {7, 1, 3}, {16, 1, 4},
		{1, 4, 0}, {9, 4, 2}, {25, 4, 2}, {49, 4, 4}, {24, 4, 2}, {26, 4, 3}, {1, 3, 1}, {1, 5, 0},
	} {
		same(t, "Root", Root(Of(c.p), Of(c.n)), big.NewInt(c.want))
	}
}

// rootOf is R(the root of p / n): the root of 4 p / n, rounded down, is twice the root with its first half.
func rootOf(p, n *big.Int) *big.Int {
	four := new(big.Int).Lsh(p, 2)
	share, rest := new(big.Int).QuoRem(four, n, new(big.Int))
	twice := new(big.Int).Sqrt(share)
	exact := rest.Sign() == 0 && new(big.Int).Mul(twice, twice).Cmp(share) == 0
	root := new(big.Int).Rsh(twice, 1)
	if twice.Bit(0) == 1 && (!exact || root.Bit(0) == 1) {
		root.Add(root, big.NewInt(1))
	}
	return root
}

func TestRoot(t *testing.T) {
	source := rand.New(rand.NewSource(4))
	for _, n := range divisors() {
		limit := new(big.Int).Mul(n, power(92))
		list := []*big.Int{new(big.Int), big.NewInt(1), n, new(big.Int).Sub(limit, big.NewInt(1))}
		for range 200 {
			p := new(big.Int).Rand(source, limit)
			list = append(list, p.Rsh(p, uint(source.Intn(184))))
		}
		for _, p := range list {
			same(t, "Root", Root(fromBig(p), fromBig(n)), rootOf(p, n))
		}
	}
}
