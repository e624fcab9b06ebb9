package cal_test

import (
	"testing"

	"gimbal/api"
	"gimbal/cal"
)

const (
	top  = 1<<api.Bits - 1 // the greatest word
	one  = api.One
	half = api.One / 2
)

// vector is what Apply answers.
type vector struct {
	v api.Vec
	e api.Errno
}

func told(c api.Cal, r api.Raw) vector {
	v, e := cal.Apply(c, r)
	return vector{v, e}
}

func good(x, y, z int64) vector { return vector{v3(x, y, z), api.OK} }
func bad(e api.Errno) vector    { return vector{api.Vec{}, e} }

func v3(x, y, z int64) api.Vec       { return api.Vec{X: x, Y: y, Z: z} }
func raw(x, y, z, t int) api.Raw     { return api.Raw{X: x, Y: y, Z: z, T: t} }
func goodAt(i int, v int64) vector   { return vector{placed(i, v), api.OK} }
func diagonal(x, y, z int64) api.Cal { return matrix(x, 0, 0, 0, y, 0, 0, 0, z) }
func plain() api.Cal                 { return diagonal(one, one, one) }

func matrix(m ...int64) api.Cal { return api.Cal{M: [9]int64(m)} }

// placed is 0 with v as its number i.
func placed(i int, v int64) api.Vec {
	a := [3]int64{}
	a[i] = v
	return v3(a[0], a[1], a[2])
}

// biased is c with this bias.
func biased(c api.Cal, bias api.Vec) api.Cal {
	c.Bias = bias
	return c
}

// heated is c with this heat, from ref on.
func heated(c api.Cal, heat api.Vec, ref int) api.Cal {
	c.Heat, c.Ref = heat, ref
	return c
}

// taking is c with a bias by which the sample 0 becomes u.
func taking(c api.Cal, u api.Vec) api.Cal {
	return biased(c, v3(-u.X, -u.Y, -u.Z))
}

type row struct {
	name string
	c    api.Cal
	r    api.Raw
	want vector
}

func check(t *testing.T, rows []row) {
	t.Helper()
	for _, r := range rows {
		if got := told(r.c, r.r); got != r.want {
			t.Errorf("%s: Apply(%+v, %+v): %v, not %v", r.name, r.c, r.r, got, r.want)
		}
		if got := wantApply(r.c, r.r); got != r.want {
			t.Errorf("%s: the test itself is at odds: %v, not %v", r.name, got, r.want)
		}
	}
}

// P10.1: Plain; each one that is told is its own.
func TestPlain(t *testing.T) {
	p := cal.Plain()
	if p != plain() || cal.Check(p) != api.OK {
		t.Errorf("Plain: %+v, Check: %v", p, cal.Check(p))
	}
	p.M[4], p.Bias.X, p.Ref = 7, 8, 9
	if again := cal.Plain(); again != plain() {
		t.Errorf("Plain, again: %+v", again)
	}
}

// P10.2: the plain one tells In, whatever the temperature.
func TestPlainTellsIn(t *testing.T) {
	check(t, []row{
		{"ordinary", plain(), raw(1, 2, 3, 0), good(1024, 2048, 3072)},
		{"below 0", plain(), raw(-1, -20, -300, -5), good(-1024, -20480, -307200)},
		{"0", plain(), raw(0, 0, 0, 25), good(0, 0, 0)},
		{"the greatest", plain(), raw(1<<15-1, 1<<15-1, 1<<15-1, 127), good(33553408, 33553408, 33553408)},
		{"the least", plain(), raw(-1<<15, -1<<15, -1<<15, -128), good(-33554432, -33554432, -33554432)},
	})
	for x := -1 << 15; x < 1<<15; x += 257 {
		for temperature := -128; temperature <= 127; temperature += 5 {
			in := 1024 * int64(x)
			check(t, []row{
				{"X", plain(), raw(x, 1, -1, temperature), good(in, 1024, -1024)},
				{"Y", plain(), raw(1, x, -1, temperature), good(1024, in, -1024)},
				{"Z", plain(), raw(1, -1, x, temperature), good(1024, -1024, in)},
			})
		}
	}
}

// P10.2: a bias alone is taken away, each number from its own.
func TestBiasAlone(t *testing.T) {
	check(t, []row{
		{"ordinary", biased(plain(), v3(24, 48, -72)), raw(1, 2, -3, 20), good(1000, 2000, -3000)},
		{"to 0", biased(plain(), v3(1024, -2048, 3072)), raw(1, -2, 3, -20), good(0, 0, 0)},
		{"of 0", biased(plain(), v3(1, -2, 3)), raw(0, 0, 0, 0), good(-1, 2, -3)},
		{"the greatest word", biased(plain(), v3(top, top, top)), raw(0, 1, 1<<15-1, 0), good(-top, 1024-top, 33553408-top)},
		{"the least word", biased(plain(), v3(-top, -top, -top)), raw(0, -1, -1<<15, 0), good(top, top-1024, top-33554432)},
	})
	for i := range 3 {
		plus, minus := [3]int{}, [3]int{}
		plus[i], minus[i] = 1, -1
		up, down := raw(plus[0], plus[1], plus[2], 0), raw(minus[0], minus[1], minus[2], 0)
		check(t, []row{
			{"in its place", biased(plain(), placed(i, 24)), up, goodAt(i, 1000)},
			{"just the greatest", biased(plain(), placed(i, 1024-top)), up, goodAt(i, top)},
			{"just above", biased(plain(), placed(i, 1023-top)), up, bad(api.ErrRange)},
			{"far above", biased(plain(), placed(i, -top)), up, bad(api.ErrRange)},
			{"just the least", biased(plain(), placed(i, top-1024)), down, goodAt(i, -top)},
			{"just below", biased(plain(), placed(i, top-1023)), down, bad(api.ErrRange)},
			{"far below", biased(plain(), placed(i, top)), down, bad(api.ErrRange)},
		})
	}
}

// P10.1: a heat alone, with the temperature at Ref, above it and below it.
func TestHeatAlone(t *testing.T) {
	hot := heated(plain(), v3(1, 0, -2), 10)
	check(t, []row{
		{"at Ref", hot, raw(1, 2, -3, 10), good(1024, 2048, -3072)},
		{"above it", hot, raw(1, 2, -3, 20), good(1014, 2048, -3052)},
		{"below it", hot, raw(1, 2, -3, 7), good(1027, 2048, -3078)},
		{"at Ref, with great heat", heated(plain(), v3(top, -top, top), -7), raw(1, 2, 3, -7), good(1024, 2048, 3072)},
		{"one above it", heated(plain(), v3(top, -top, 5), -7), raw(0, 0, 0, -6), good(-top, top, -5)},
		{"one below it", heated(plain(), v3(top, -top, 5), -7), raw(0, 0, 0, -8), good(top, -top, 5)},
		{"Ref 127, at it", heated(plain(), v3(3, 5, 7), 127), raw(1, 1, 1, 127), good(1024, 1024, 1024)},
		{"Ref 127, as far as it goes", heated(plain(), v3(3, -5, 7), 127), raw(1, 1, 1, -128), good(1024+765, 1024-1275, 1024+1785)},
		{"Ref -128, at it", heated(plain(), v3(3, 5, 7), -128), raw(1, 1, 1, -128), good(1024, 1024, 1024)},
		{"Ref -128, as far as it goes", heated(plain(), v3(3, -5, 7), -128), raw(1, 1, 1, 127), good(1024-765, 1024+1275, 1024-1785)},
		{"one above it, in, and out of the words", heated(plain(), v3(0, top, 0), 0), raw(0, -1, 0, 1), bad(api.ErrRange)},
		{"one below it, in, and out of the words", heated(plain(), v3(0, 0, top), 0), raw(0, 0, 1, -1), bad(api.ErrRange)},
		{"two above it", heated(plain(), v3(top, 0, 0), 0), raw(0, 0, 0, 2), bad(api.ErrRange)},
	})
	both := biased(heated(plain(), v3(2, 3, -5), -40), v3(100, -200, 300))
	check(t, []row{
		{"bias and heat", both, raw(7, 8, 9, -30), good(7168-100-20, 8192+200-30, 9216-300+50)},
		{"bias against heat", biased(heated(plain(), v3(-top, top, top), 0), v3(top, -top, -top)), raw(1, 2, -3, 1), good(1024, 2048, -3072)},
	})
}

// P10.1: matrices: a factor for each number, cross terms, rows at other places.
func TestMatrices(t *testing.T) {
	r := raw(1, 2, -3, 20)
	check(t, []row{
		{"0", matrix(0, 0, 0, 0, 0, 0, 0, 0, 0), r, good(0, 0, 0)},
		{"twice One", diagonal(2*one, 2*one, 2*one), r, good(2048, 4096, -6144)},
		{"One twice, 0 once", diagonal(one, 0, one), r, good(1024, 0, -3072)},
		{"One twice, its negative once", diagonal(one, one, -one), r, good(1024, 2048, 3072)},
		{"a factor each", diagonal(3*one, -one/4, half), r, good(3072, -512, -1536)},
		{"two rows changed", matrix(0, one, 0, one, 0, 0, 0, 0, one), r, good(2048, 1024, -3072)},
		{"all rows changed", matrix(0, 0, one, one, 0, 0, 0, one, 0), r, good(-3072, 1024, 2048)},
		{"rows changed and turned", matrix(0, one, 0, -one, 0, 0, one, one, one), r, good(2048, -1024, 0)},
		{"cross terms", matrix(one, half, 0, 0, one, -half, half, 0, one), r, good(2048, 3584, -2560)},
		{"a number of its own at each place", matrix(1<<20, 1<<21, 1<<22, 1<<23, 1<<24, 1<<25, 1<<26, 1<<27, 1<<28), r, good(-7, -56, -448)},
		{"one row alone", matrix(0, 0, 0, one, one, one, 0, 0, 0), raw(5, 6, 7, 0), good(0, 18432, 0)},
		{"one column alone", matrix(0, one, 0, 0, 2*one, 0, 0, 3*one, 0), raw(5, 6, 7, 0), good(6144, 12288, 18432)},
	})
	whole := biased(heated(matrix(one, half, 0, 0, one, -half, half, 0, one), v3(1, -2, 4), 15), v3(10, 20, 30))
	// u: 1024 - 10 - 5, 2048 - 20 + 10, -3072 - 30 - 20
	check(t, []row{{"bias and heat ahead of the matrix", whole, r, good(1009+1019, 2038+1561, -3122+504)}})
}

// P10.1: R: the nearest one, of two as near the even one, rounded once.
func TestRounding(t *testing.T) {
	halves := diagonal(half, half, half)
	check(t, []row{
		{"1/2, 3/2, 5/2", taking(halves, v3(1, 3, 5)), raw(0, 0, 0, 0), good(0, 2, 2)},
		{"-1/2, -3/2, -5/2", taking(halves, v3(-1, -3, -5)), raw(0, 0, 0, 0), good(0, -2, -2)},
		{"of raw samples", diagonal(one/2048, one/2048, -one/2048), raw(1, 3, 5, 0), good(0, 2, -2)},
		{"of heat", heated(halves, v3(-1, -3, 1), 0), raw(0, 0, 0, 1), good(0, 2, 0)},
		{"just above a half", taking(diagonal(half+1, half+1, half+1), v3(1, 5, -5)), raw(0, 0, 0, 0), good(1, 3, -3)},
		{"just below a half", taking(diagonal(half-1, half-1, half-1), v3(1, 3, -3)), raw(0, 0, 0, 0), good(0, 1, -1)},
		{"a sum of three halves", taking(matrix(half, half, half, -half, -half, -half, half, half, -half), v3(1, 1, 1)), raw(0, 0, 0, 0), good(2, -2, 0)},
		{"rounded once, not thrice", taking(matrix(one/3, one/3, one/3, -one/3, -one/3, -one/3, 1, half-1, 0), v3(1, 1, 1)), raw(0, 0, 0, 0), good(1, -1, 0)},
		{"just a half, of unequal parts", taking(matrix(one/4, one/8, one/8, one, one/4, one/4, 2*one, one/3, half-one/3), v3(1, 1, 1)), raw(0, 0, 0, 0), good(0, 2, 2)},
		{"great parts, halves", taking(matrix(top, -top, half, -top, top, half, top, -top, -half), v3(top, top, 3)), raw(0, 0, 0, 0), good(2, 2, -2)},
	})
}

// P10.1: u is exact, though it is far from a word, and so are the sums; the image alone must be a word.
func TestFarFromWords(t *testing.T) {
	far := heated(biased(plain(), v3(-top, top, -top)), v3(-top, top, -top), -128)
	least := heated(biased(plain(), v3(-top, top, -top)), v3(top, -top, top), 127)
	with := func(c api.Cal, m ...int64) api.Cal {
		c.M = [9]int64(m)
		return c
	}
	// of far with T 127, and of least with T -128, u is In and 256 top, -256 top, 256 top
	check(t, []row{
		{"u is no word", far, raw(0, 0, 0, 127), bad(api.ErrRange)},
		{"u is a word, but for one number", heated(plain(), v3(0, 0, top), 0), raw(1, 1, 1, 2), bad(api.ErrRange)},
		{"a 1024th", with(far, one/1024, 0, 0, 0, one/1024, 0, 0, 0, one/1024), raw(0, 0, 0, 127), good(1<<43, -1<<43, 1<<43)},
		{"a 1024th, the other way", with(least, one/1024, 0, 0, 0, one/1024, 0, 0, 0, one/1024), raw(0, 0, 0, -128), good(1<<43, -1<<43, 1<<43)},
		{"a 256th: the greatest", with(far, one/256, 0, 0, 0, one/256, 0, 0, 0, one/256), raw(0, 0, 0, 127), good(top, -top, top)},
		{"a 256th: just above", with(far, one/256, 0, 0, 0, one/256, 0, 0, 0, one/256), raw(1, 0, 0, 127), bad(api.ErrRange)},
		{"the smallest of factors", with(far, 1, 0, 0, 0, -1, 0, 1, 1, 1), raw(1, 0, -1, 127), good(1<<23, 1<<23, 1<<23)},
		{"great parts, In", with(far, one, one, 0, 0, one, one, 2*one, one, -one), raw(1, 2, 4, 127), good(3072, 6144, 0)},
		{"the greatest words", with(far, top, top, 0, 0, top, top, -top, -top, 0), raw(0, 0, 0, 127), good(0, 0, 0)},
		{"the greatest words and In", with(far, top, top, 0, 0, -top, -top, top, 0, -top), raw(1<<15-1, 0, -1<<15, 127), good(1099478073344, 1<<40, 65535<<25)},
		{"the least words and In", with(far, -top, -top, 0, 0, 0, 0, 0, 0, 0), raw(-1, 0, 0, 127), good(1<<25, 0, 0)},
		{"all of the greatest", with(far, top, -top, top, 0, 0, 0, 0, 0, 0), raw(1<<15-1, -1<<15, 1<<15-1, 127), bad(api.ErrRange)},
		{"all of the least", with(far, 0, 0, 0, 0, 0, 0, -top, top, -top), raw(1<<15-1, -1<<15, 1<<15-1, 127), bad(api.ErrRange)},
	})
}

// P10.1: an image that is the greatest or the least word, and one beyond it, in each row.
func TestEndsOfTheImage(t *testing.T) {
	for i := range 3 {
		for _, sign := range []int64{1, -1} {
			ends := func(first, second int64) api.Cal {
				c := api.Cal{}
				c.M[3*i], c.M[3*i+1] = sign*first, sign*second
				return taking(c, v3(top, 1, 0))
			}
			check(t, []row{
				{"at the end", ends(one, 0), raw(0, 0, 0, 0), goodAt(i, sign*top)},
				{"at the end, rounded to it", ends(one, half-1), raw(0, 0, 0, 0), goodAt(i, sign*top)},
				{"just between it and one beyond", ends(one, half), raw(0, 0, 0, 0), bad(api.ErrRange)},
				{"one beyond", ends(one, one), raw(0, 0, 0, 0), bad(api.ErrRange)},
				{"one within", ends(one, -one), raw(0, 0, 0, 0), goodAt(i, sign*(top-1))},
				{"just between it and one within", ends(one, -half), raw(0, 0, 0, 0), goodAt(i, sign*(top-1))},
				{"far beyond", ends(top, 0), raw(0, 0, 0, 0), bad(api.ErrRange)},
			})
		}
	}
}
