package limb

import (
	"math"
	"math/big"
	"math/rand"
	"testing"
)

// toBig tells a number of limbs as one of the library, which it is held against.
func toBig(a natural) *big.Int {
	v := new(big.Int)
	for i := len(a) - 1; i >= 0; i-- {
		v.Lsh(v, limbBits)
		v.Or(v, new(big.Int).SetUint64(a[i]))
	}
	return v
}

// samples are numbers of up to five limbs, those among them whose limbs are all ones, all zeros, or one bit: there carries run, and a guess of a quotient's limb goes wrong.
func samples() []natural {
	limbs := []uint64{0, 1, 2, 1<<32 - 1, 1 << 63, 1<<63 - 1, math.MaxUint64 - 1, math.MaxUint64}
	source := rand.New(rand.NewSource(2))
	list := []natural{nil, {1}, {2}, {math.MaxUint64}, {0, 1}, {0, 0, 1}, {math.MaxUint64, math.MaxUint64}}
	for n := 1; n <= 5; n++ {
		for range 12 {
			a := make(natural, n)
			for i := range a {
				a[i] = limbs[source.Intn(len(limbs))]
			}
			list = append(list, a.trim())
			b := make(natural, n)
			for i := range b {
				b[i] = source.Uint64()
			}
			list = append(list, b.trim())
		}
	}
	return list
}

func same(t *testing.T, name string, a, b, got natural, want *big.Int) {
	t.Helper()
	if len(got) > 0 && got[len(got)-1] == 0 || toBig(got).Cmp(want) != 0 {
		t.Fatalf("%v %s %v: %v, not %x", a, name, b, got, want)
	}
}

func TestTwoNaturals(t *testing.T) {
	for _, a := range samples() {
		for _, b := range samples() {
			x, y := toBig(a), toBig(b)
			if got := a.compare(b); got != x.Cmp(y) {
				t.Fatalf("%v against %v: %d", a, b, got)
			}
			same(t, "+", a, b, a.plus(b), new(big.Int).Add(x, y))
			same(t, "*", a, b, a.times(b), new(big.Int).Mul(x, y))
			difference := new(big.Int).Sub(x, y)
			if difference.Sign() < 0 {
				difference.SetInt64(0)
			}
			same(t, "-", a, b, a.minus(b), difference)
			if len(b) > 0 {
				quotient, rest := a.over(b)
				q, r := new(big.Int).QuoRem(x, y, new(big.Int))
				same(t, "/", a, b, quotient, q)
				same(t, "%", a, b, rest, r)
			}
		}
	}
}

// A quotient's limb is guessed too great by 1, and by 2, and where the guess would be above all limbs.
func TestWrongGuesses(t *testing.T) {
	for _, c := range []struct{ a, b natural }{
		{natural{0, 0, 1 << 63}, natural{math.MaxUint64, 1 << 63}},
		{natural{0, math.MaxUint64 - 1, 1<<63 - 1}, natural{math.MaxUint64, 1 << 63}},
		{natural{0, 0, 1 << 63}, natural{1, 1 << 63}},
		{natural{3, 0, 1 << 63}, natural{1, 0, 1 << 61}},
		{natural{0, 0, 1<<63 - 1, 1 << 63}, natural{math.MaxUint64, 0, 1 << 63}},
	} {
		quotient, rest := c.a.over(c.b)
		q, r := new(big.Int).QuoRem(toBig(c.a), toBig(c.b), new(big.Int))
		same(t, "/", c.a, c.b, quotient, q)
		same(t, "%", c.a, c.b, rest, r)
	}
}

func TestShiftsAndNearest(t *testing.T) {
	for _, a := range samples() {
		for _, n := range []int{0, 1, 31, 63, 64, 65, 128, 200, 400} {
			x := toBig(a)
			same(t, "up", a, nil, a.up(n), new(big.Int).Lsh(x, uint(n)))
			same(t, "down", a, nil, a.down(n), new(big.Int).Rsh(x, uint(n)))
		}
	}
	half := natural{0, 1 << 63} // with two limbs behind the point
	for _, c := range []struct {
		a    natural
		want natural
	}{
		{nil, nil},
		{half, nil},
		{half.plus(natural{1}), natural{1}},
		{half.minus(natural{1}), nil},
		{half.plus(natural{0, 0, 1}), natural{2}},
		{half.plus(natural{0, 0, 2}), natural{2}},
		{half.plus(natural{1, 0, 2}), natural{3}},
		{half.plus(natural{0, 0, math.MaxUint64}), natural{0, 1}},
	} {
		same(t, "nearest", c.a, nil, c.a.nearest(128), toBig(c.want))
	}
}

// What a number is made of is not written into by what is made of it.
func TestNaturalsStayAsTheyAre(t *testing.T) {
	for _, a := range samples() {
		for _, b := range samples() {
			if len(b) == 0 {
				continue
			}
			x, y := toBig(a), toBig(b)
			a.plus(b)
			a.minus(b)
			a.times(b)
			a.over(b)
			a.up(7).plus(b)
			a.down(64).plus(b)
			a.nearest(64)
			if toBig(a).Cmp(x) != 0 || toBig(b).Cmp(y) != 0 {
				t.Fatalf("%v, %v were changed", a, b)
			}
		}
	}
}
