package fx_test

import (
	"math"
	"math/big"
	"math/rand"
	"testing"

	"gimbal/api"
	"gimbal/fx"
)

const (
	top  = 1<<api.Bits - 1 // the greatest word
	half = api.One / 2
)

// told is what a call answers.
type told struct {
	v int64
	e api.Errno
}

func of(v int64, e api.Errno) told { return told{v, e} }
func good(v int64) told            { return told{v, api.OK} }
func bad(e api.Errno) told         { return told{0, e} }

type row struct {
	name      string
	got, want told
}

func check(t *testing.T, rows []row) {
	t.Helper()
	for _, r := range rows {
		if r.got != r.want {
			t.Errorf("%s: %v, not %v", r.name, r.got, r.want)
		}
	}
}

// numbers are words at their edges and between, and numbers that are none.
func numbers() []int64 {
	list := []int64{0, math.MinInt64, math.MinInt64 + 1, math.MaxInt64, math.MaxInt64 - 1}
	for _, v := range []int64{1, 2, 3, 5, 7, 1000003, half - 1, half, half + 1, 3 * half, 5 * half, api.One - 1, api.One, api.One + 1, 1<<31 + 1, 1<<37 - 1, 1 << 37, 1 << 38, 1 << 44, top - 1, top, top + 1, top + 2, 1 << 46, 1 << 62} {
		list = append(list, v, -v)
	}
	source := rand.New(rand.NewSource(1))
	for range 60 {
		list = append(list, source.Int63()>>(18+source.Intn(46)), -source.Int63()>>(18+source.Intn(46)))
	}
	return list
}

func isWord(v int64) bool { return v > -1<<45 && v < 1<<45 }

// wordOf tells a number of any length as a call must tell it.
func wordOf(v *big.Int) told {
	if v.CmpAbs(big.NewInt(1<<45)) >= 0 {
		return bad(api.ErrRange)
	}
	return good(v.Int64())
}

// rounded is R(n / d): reckoned as floor((2 n + d) / (2 d)), one less if that was a half above an even number.
func rounded(n, d *big.Int) *big.Int {
	if d.Sign() < 0 {
		n, d = new(big.Int).Neg(n), new(big.Int).Neg(d)
	}
	twice := new(big.Int).Lsh(d, 1)
	sum := new(big.Int).Add(new(big.Int).Lsh(n, 1), d)
	q, rest := new(big.Int).DivMod(sum, twice, new(big.Int))
	if rest.Sign() == 0 && q.Bit(0) == 1 {
		q.Sub(q, big.NewInt(1))
	}
	return q
}

func wide(v int64) *big.Int { return big.NewInt(v) }

// P1.1: Check.
func TestCheckTellsWords(t *testing.T) {
	for _, v := range []int64{0, 1, -1, api.One, top - 1, top, -top, -top + 1} {
		if e := fx.Check(v); e != api.OK {
			t.Errorf("Check(%d): %v", v, e)
		}
	}
	for _, v := range []int64{top + 1, -top - 1, top + 2, 1 << 46, -1 << 46, math.MaxInt64, math.MinInt64, math.MinInt64 + 1} {
		if e := fx.Check(v); e != api.ErrForm {
			t.Errorf("Check(%d): %v", v, e)
		}
	}
}

// P1.1: Add, Sub, Neg.
func TestSums(t *testing.T) {
	check(t, []row{
		{"2 + 3", of(fx.Add(2, 3)), good(5)},
		{"2 - 3", of(fx.Sub(2, 3)), good(-1)},
		{"- 3", of(fx.Neg(3)), good(-3)},
		{"- 0", of(fx.Neg(0)), good(0)},
		{"up to the greatest", of(fx.Add(top-1, 1)), good(top)},
		{"above the greatest", of(fx.Add(top, 1)), bad(api.ErrRange)},
		{"twice the greatest", of(fx.Add(top, top)), bad(api.ErrRange)},
		{"down to the least", of(fx.Sub(1-top, 1)), good(-top)},
		{"below the least", of(fx.Sub(-top, 1)), bad(api.ErrRange)},
		{"greatest - greatest", of(fx.Sub(top, top)), good(0)},
		{"- the greatest", of(fx.Neg(top)), good(-top)},
		{"- the least", of(fx.Neg(-top)), good(top)},
		{"no word + its negative", of(fx.Add(top+1, -top-1)), bad(api.ErrForm)},
		{"word + no word", of(fx.Add(-1, top+1)), bad(api.ErrForm)},
		{"no word - word", of(fx.Sub(top+1, 1)), bad(api.ErrForm)},
		{"word - no word", of(fx.Sub(-1, -top-1)), bad(api.ErrForm)},
		{"- no word", of(fx.Neg(top + 1)), bad(api.ErrForm)},
		{"- the least int64", of(fx.Neg(math.MinInt64)), bad(api.ErrForm)},
		{"least int64 + least int64", of(fx.Add(math.MinInt64, math.MinInt64)), bad(api.ErrForm)},
	})
}

// P1.1: Mul.
func TestProducts(t *testing.T) {
	check(t, []row{
		{"one by 7", of(fx.Mul(api.One, 7)), good(7)},
		{"a half below an odd one", of(fx.Mul(half, 1)), good(0)},
		{"a half above an odd one", of(fx.Mul(half, 3)), good(2)},
		{"a half above an even one", of(fx.Mul(half, 5)), good(2)},
		{"negative half, first", of(fx.Mul(-half, 3)), good(-2)},
		{"negative half, second", of(fx.Mul(half, -5)), good(-2)},
		{"negative half to 0", of(fx.Mul(half, -1)), good(0)},
		{"both negative", of(fx.Mul(-half, -3)), good(2)},
		{"just above a half", of(fx.Mul(half+1, 5)), good(3)},
		{"just below a half", of(fx.Mul(half-1, 3)), good(1)},
		{"the greatest by one", of(fx.Mul(top, api.One)), good(top)},
		{"the greatest by more", of(fx.Mul(top, api.One+1)), bad(api.ErrRange)},
		{"rounded up to no word", of(fx.Mul(1<<37+1, 1<<38-2)), bad(api.ErrRange)},
		{"a half up to no word", of(fx.Mul(1<<37+1<<14, 1<<38-1<<15)), bad(api.ErrRange)},
		{"rounded down to the greatest", of(fx.Mul(1<<37+1<<14+1, 1<<38-1<<15-2)), good(top)},
		{"the greatest by itself", of(fx.Mul(top, top)), bad(api.ErrRange)},
		{"the greatest by the least", of(fx.Mul(top, -top)), bad(api.ErrRange)},
		{"no word by 0", of(fx.Mul(top+1, 0)), bad(api.ErrForm)},
		{"0 by no word", of(fx.Mul(0, -top-1)), bad(api.ErrForm)},
		{"the least int64 by itself", of(fx.Mul(math.MinInt64, math.MinInt64)), bad(api.ErrForm)},
	})
}

// P1.1: Div.
func TestQuotients(t *testing.T) {
	check(t, []row{
		{"1 / 2", of(fx.Div(1, 2)), good(half)},
		{"1 / 3", of(fx.Div(1, 3)), good(357913941)},
		{"-1 / 3", of(fx.Div(-1, 3)), good(-357913941)},
		{"2 / 3", of(fx.Div(2, 3)), good(715827883)},
		{"a half to 0", of(fx.Div(1, 1<<31)), good(0)},
		{"a half to 2", of(fx.Div(3, 1<<31)), good(2)},
		{"a half down to 2", of(fx.Div(5, 1<<31)), good(2)},
		{"negative half, above", of(fx.Div(-3, 1<<31)), good(-2)},
		{"negative half, below", of(fx.Div(5, -1<<31)), good(-2)},
		{"both negative", of(fx.Div(-3, -1<<31)), good(2)},
		{"0 / -1", of(fx.Div(0, -1)), good(0)},
		{"just a word", of(fx.Div(1<<15-1, 1)), good(1<<45 - 1<<30)},
		{"just no word", of(fx.Div(1<<15, 1)), bad(api.ErrRange)},
		{"just no word, negative", of(fx.Div(1<<15, -1)), bad(api.ErrRange)},
		{"the greatest by less than one", of(fx.Div(top, api.One-1)), bad(api.ErrRange)},
		{"the greatest / 1", of(fx.Div(top, 1)), bad(api.ErrRange)},
		{"just below 2^64", of(fx.Div(3<<34-1, 3)), bad(api.ErrRange)},
		{"just below 2^64, negative", of(fx.Div(3<<34-1, -3)), bad(api.ErrRange)},
		{"just above 2^64", of(fx.Div(3<<34+1, 3)), bad(api.ErrRange)},
		{"by 0", of(fx.Div(1, 0)), bad(api.ErrZero)},
		{"0 by 0", of(fx.Div(0, 0)), bad(api.ErrZero)},
		{"no word by 0", of(fx.Div(top+1, 0)), bad(api.ErrForm)},
		{"by no word", of(fx.Div(0, top+1)), bad(api.ErrForm)},
		{"by the least int64", of(fx.Div(1, math.MinInt64)), bad(api.ErrForm)},
	})
}

// P1.1: Ratio, which takes any int64.
func TestRatios(t *testing.T) {
	const least, greatest = math.MinInt64, math.MaxInt64
	check(t, []row{
		{"5 / 2", of(fx.Ratio(5, 2)), good(2)},
		{"7 / 2", of(fx.Ratio(7, 2)), good(4)},
		{"-5 / 2", of(fx.Ratio(-5, 2)), good(-2)},
		{"7 / -2", of(fx.Ratio(7, -2)), good(-4)},
		{"-7 / -2", of(fx.Ratio(-7, -2)), good(4)},
		{"1 / 2", of(fx.Ratio(1, 2)), good(0)},
		{"1 / 3", of(fx.Ratio(1, 3)), good(0)},
		{"2 / 3", of(fx.Ratio(2, 3)), good(1)},
		{"least / least", of(fx.Ratio(least, least)), good(1)},
		{"least / greatest", of(fx.Ratio(least, greatest)), good(-1)},
		{"greatest / least", of(fx.Ratio(greatest, least)), good(-1)},
		{"a half of the least", of(fx.Ratio(1<<62, least)), good(0)},
		{"more than a half of the least", of(fx.Ratio(1<<62+1, least)), good(-1)},
		{"least / 2^20", of(fx.Ratio(least, 1<<20)), good(-1 << 43)},
		{"just no word", of(fx.Ratio(least, 1<<18)), bad(api.ErrRange)},
		{"a half below no word", of(fx.Ratio(1<<46-1, 2)), bad(api.ErrRange)},
		{"less than a half above the greatest", of(fx.Ratio(3*top+1, 3)), good(top)},
		{"least / -1", of(fx.Ratio(least, -1)), bad(api.ErrRange)},
		{"least / 1", of(fx.Ratio(least, 1)), bad(api.ErrRange)},
		{"no word / 1", of(fx.Ratio(top+1, 1)), bad(api.ErrRange)},
		{"the greatest word / 1", of(fx.Ratio(top, 1)), good(top)},
		{"1 / 0", of(fx.Ratio(1, 0)), bad(api.ErrZero)},
		{"0 / 0", of(fx.Ratio(0, 0)), bad(api.ErrZero)},
		{"least / 0", of(fx.Ratio(least, 0)), bad(api.ErrZero)},
	})
}

// P1.1: every call of two numbers, held against numbers of any length.
func TestTwoNumbersExactly(t *testing.T) {
	one := wide(api.One)
	list := numbers()
	for _, a := range list {
		for _, b := range list {
			x, y := wide(a), wide(b)
			add, sub, mul, div := bad(api.ErrForm), bad(api.ErrForm), bad(api.ErrForm), bad(api.ErrForm)
			if isWord(a) && isWord(b) {
				add = wordOf(new(big.Int).Add(x, y))
				sub = wordOf(new(big.Int).Sub(x, y))
				mul = wordOf(rounded(new(big.Int).Mul(x, y), one))
				div = bad(api.ErrZero)
				if b != 0 {
					div = wordOf(rounded(new(big.Int).Mul(x, one), y))
				}
			}
			ratio := bad(api.ErrZero)
			if b != 0 {
				ratio = wordOf(rounded(x, y))
			}
			for _, r := range []row{
				{"Add", of(fx.Add(a, b)), add},
				{"Sub", of(fx.Sub(a, b)), sub},
				{"Mul", of(fx.Mul(a, b)), mul},
				{"Div", of(fx.Div(a, b)), div},
				{"Ratio", of(fx.Ratio(a, b)), ratio},
			} {
				if r.got != r.want {
					t.Fatalf("%s(%d, %d): %v, not %v", r.name, a, b, r.got, r.want)
				}
			}
		}
	}
}

// P1.2: Sqrt, Root.
func TestRoots(t *testing.T) {
	check(t, []row{
		{"Sqrt(0)", of(fx.Sqrt(0)), good(0)},
		{"Sqrt(1)", of(fx.Sqrt(1)), good(1)},
		{"Sqrt(15)", of(fx.Sqrt(15)), good(3)},
		{"Sqrt(16)", of(fx.Sqrt(16)), good(4)},
		{"Sqrt(17)", of(fx.Sqrt(17)), good(4)},
		{"Sqrt of the greatest", of(fx.Sqrt(top)), good(5931641)},
		{"Sqrt(-1)", of(fx.Sqrt(-1)), bad(api.ErrForm)},
		{"Sqrt of the least", of(fx.Sqrt(-top)), bad(api.ErrForm)},
		{"Sqrt of no word", of(fx.Sqrt(top + 1)), bad(api.ErrForm)},
		{"Sqrt of the least int64", of(fx.Sqrt(math.MinInt64)), bad(api.ErrForm)},
		{"Sqrt of the greatest int64", of(fx.Sqrt(math.MaxInt64)), bad(api.ErrForm)},
		{"Root(0)", of(fx.Root(0)), good(0)},
		{"Root(1)", of(fx.Root(1)), good(1 << 15)},
		{"Root(2), down", of(fx.Root(2)), good(46341)},
		{"Root(3), up", of(fx.Root(3)), good(56756)},
		{"Root(One)", of(fx.Root(api.One)), good(api.One)},
		{"Root(2 One)", of(fx.Root(2 * api.One)), good(1518500250)},
		{"Root of the greatest", of(fx.Root(top)), good(194368031998)},
		{"Root(-1)", of(fx.Root(-1)), bad(api.ErrForm)},
		{"Root of no word", of(fx.Root(top + 1)), bad(api.ErrForm)},
		{"Root of the least int64", of(fx.Root(math.MinInt64)), bad(api.ErrForm)},
	})
}

// P1.2: both roots, held against numbers of any length, squares and their neighbours among them.
func TestRootsExactly(t *testing.T) {
	list := numbers()
	for r := int64(1); r*r < top; r = r*3/2 + 1 {
		list = append(list, r*r-1, r*r, r*r+1)
	}
	for _, a := range list {
		sqrt, root := bad(api.ErrForm), bad(api.ErrForm)
		if isWord(a) && a >= 0 {
			sqrt = good(new(big.Int).Sqrt(wide(a)).Int64())
			// The root of 4 n, rounded down, is twice that of n with its first half: odd if that is there.
			twice := new(big.Int).Sqrt(new(big.Int).Lsh(wide(a), 32)).Int64()
			root = good((twice + 1) / 2)
		}
		check(t, []row{{"Sqrt", of(fx.Sqrt(a)), sqrt}, {"Root", of(fx.Root(a)), root}})
	}
}

// P1.2: Clamp.
func TestClamp(t *testing.T) {
	check(t, []row{
		{"between", of(fx.Clamp(2, 1, 3)), good(2)},
		{"below", of(fx.Clamp(-5, 1, 3)), good(1)},
		{"above", of(fx.Clamp(5, 1, 3)), good(3)},
		{"at the low end", of(fx.Clamp(1, 1, 3)), good(1)},
		{"at the high end", of(fx.Clamp(3, 1, 3)), good(3)},
		{"ends that are one, below", of(fx.Clamp(2, 3, 3)), good(3)},
		{"ends that are one, above", of(fx.Clamp(4, 3, 3)), good(3)},
		{"negative ends", of(fx.Clamp(0, -3, -1)), good(-1)},
		{"all words", of(fx.Clamp(top, -top, top)), good(top)},
		{"the wrong way round", of(fx.Clamp(2, 3, 1)), bad(api.ErrForm)},
		{"v no word", of(fx.Clamp(top+1, 1, 3)), bad(api.ErrForm)},
		{"v no word, negative", of(fx.Clamp(-top-1, 1, 3)), bad(api.ErrForm)},
		{"lo no word", of(fx.Clamp(2, -top-1, 3)), bad(api.ErrForm)},
		{"hi no word", of(fx.Clamp(2, 1, top+1)), bad(api.ErrForm)},
		{"the ends of int64", of(fx.Clamp(2, math.MinInt64, math.MaxInt64)), bad(api.ErrForm)},
	})
}

// P1.3: Mul and Div by One change nothing.
func TestOneChangesNothing(t *testing.T) {
	for _, a := range numbers() {
		if !isWord(a) {
			continue
		}
		check(t, []row{
			{"Mul(a, One)", of(fx.Mul(a, api.One)), good(a)},
			{"Mul(One, a)", of(fx.Mul(api.One, a)), good(a)},
			{"Div(a, One)", of(fx.Div(a, api.One)), good(a)},
		})
	}
}

// P1.3: Root of Mul(a, a) is a without its sign, but for rounding: Mul is off by at most 1/2, so Root's number is the root of what is off a^2 by at most 2^29, rounded.
func TestRootOfSquare(t *testing.T) {
	seen := 0
	for _, a := range numbers() {
		square, e := fx.Mul(a, a)
		if e != api.OK {
			continue
		}
		seen++
		r, e := fx.Root(square)
		if e != api.OK || r < 0 {
			t.Fatalf("Root(Mul(%d, %d)): %d, %v", a, a, r, e)
		}
		off := new(big.Int).Sub(new(big.Int).Mul(wide(r), wide(r)), new(big.Int).Mul(wide(a), wide(a)))
		if off.CmpAbs(wide(1<<29+r+1)) > 0 {
			t.Errorf("Root(Mul(%d, %d)): %d", a, a, r)
		}
	}
	if seen < 20 {
		t.Errorf("only %d squares", seen)
	}
	for _, a := range []int64{api.One, 3 * api.One, 100 * api.One, 1 << 37} {
		for _, v := range []int64{a, -a} {
			square, _ := fx.Mul(v, v)
			check(t, []row{{"Root of an exact square", of(fx.Root(square)), good(a)}})
		}
	}
}
