package split_test

import (
	"math/rand"
	"testing"

	"gimbal/api"
	"gimbal/split"
	"gimbal/vec"
)

// P16.3: Linear and Gravity together are the sample.
func TestTogether(t *testing.T) {
	source := rand.New(rand.NewSource(163))
	samples := []api.Vec{{}, v3(0, 0, g), v3(-1, 2, -3), v3(g, -g, g), v3(1<<44, -1<<44, 1), v3(g-top, top-g, top-g)}
	for range 50 {
		samples = append(samples, v3(someWord(source)>>1, someWord(source)>>1, someWord(source)>>1))
	}
	for _, f := range append(someOrientations(t), longOnes()...) {
		gravity, _ := split.Gravity(f)
		for _, a := range samples {
			linear, e := split.Linear(f, a)
			sum, e0 := vec.Add(linear, gravity)
			if e != api.OK || e0 != api.OK || sum != a {
				t.Errorf("of %v by %v: %v and %v, %v", a, f, linear, gravity, e)
			}
		}
	}
}

// P16.3: at p0 the altitude is 0; the other way round it is the negative.
func TestThereAndBack(t *testing.T) {
	source := rand.New(rand.NewSource(164))
	for range 2000 {
		p, p0 := source.Int63n(top)>>source.Intn(45)+1, source.Int63n(top)>>source.Intn(45)+1
		there, e := split.Altitude(p, p0)
		back, e0 := split.Altitude(p0, p)
		if there != -back || e != api.OK || e0 != api.OK || p < p0 && there < 0 || p > p0 && there > 0 {
			t.Errorf("Altitude(%d, %d): %d, %v; the other way round: %d, %v", p, p0, there, e, back, e0)
		}
		for _, v := range []int64{p, p0} {
			if h, e := split.Altitude(v, v); h != 0 || e != api.OK {
				t.Errorf("Altitude(%d, %d): %d, %v", v, v, h, e)
			}
		}
	}
}

// P16.3: the lower the pressure, the higher it is; and one climb behind the other is both at once, but for rounding: each is off by at most 1/2, so all three by at most 1.
func TestClimbs(t *testing.T) {
	last := int64(0)
	for p := int64(101325); p > 0; p -= 97 {
		h, _ := split.Altitude(p, 101325)
		first, _ := split.Altitude(90000, 101325)
		second, _ := split.Altitude(p, 90000)
		if h < last || first+second-h > 1 || first+second-h < -1 {
			t.Errorf("Altitude(%d, 101325): %d, behind %d; in two climbs %d and %d", p, h, last, first, second)
		}
		last = h
	}
}
