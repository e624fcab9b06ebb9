package detect_test

import (
	"math"
	"testing"

	"gimbal/api"
	"gimbal/detect"
)

func TestTimes(t *testing.T) {
	for _, v := range []int64{0, 1, 1 << 31, 1 << 32, api.MaxClock - 1, api.MaxClock} {
		if !detect.IsTime(v) {
			t.Errorf("%d is no time", v)
		}
	}
	for _, v := range []int64{-1, api.MaxClock + 1, 1 << 41, math.MaxInt64, math.MinInt64} {
		if detect.IsTime(v) {
			t.Errorf("%d is a time", v)
		}
	}
}

func TestMagnitudes(t *testing.T) {
	for _, v := range []int64{0, 1, api.Gravity, 1<<45 - 1} {
		if !detect.IsMagnitude(v) {
			t.Errorf("%d is no magnitude", v)
		}
	}
	for _, v := range []int64{-1, -api.Gravity, 1 - 1<<45, 1 << 45, math.MaxInt64, math.MinInt64} {
		if detect.IsMagnitude(v) {
			t.Errorf("%d is a magnitude", v)
		}
	}
}

func TestSides(t *testing.T) {
	apart, one := detect.Sides[int64]{Low: -3, High: 5}, detect.Sides[int64]{Low: 7, High: 7}
	for _, test := range []struct {
		n     int64
		sides detect.Sides[int64]
		want  detect.Place
	}{
		{math.MinInt64, apart, detect.Below}, {-4, apart, detect.Below},
		{-3, apart, detect.Between}, {0, apart, detect.Between}, {5, apart, detect.Between},
		{6, apart, detect.Above}, {math.MaxInt64, apart, detect.Above},
		{6, one, detect.Below}, {7, one, detect.Between}, {8, one, detect.Above},
	} {
		if got := detect.Where(test.n, test.sides); got != test.want {
			t.Errorf("Where(%d, %+v): %d, not %d", test.n, test.sides, got, test.want)
		}
	}
	if got := detect.Where("b", detect.Sides[string]{Low: "c", High: "d"}); got != detect.Below {
		t.Errorf("of texts: %d", got)
	}
}
