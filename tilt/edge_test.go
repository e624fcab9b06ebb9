package tilt_test

import (
	"testing"

	"gimbal/api"
)

// P19.1: the limits of all of it that the numbers and the times hang on.
func TestLimits(t *testing.T) {
	if api.One != one || api.MaxClock != clock || api.Bits != 45 {
		t.Errorf("One %d, MaxClock %d, Bits %d", api.One, api.MaxClock, api.Bits)
	}
}

// checkPlace takes a vector that is near, or not, in every state: which of both shows in each.
func checkPlace(t *testing.T, ref, u api.Vec, isNear bool) {
	t.Helper()
	const now = 5000
	if isNear {
		check(t, []row{
			{"near", near(ref), u, now, quiet(near(ref))},
			{"back at once", away(ref, now), u, now, quiet(near(ref))},
			{"just back in time", away(ref, 3001), u, now, quiet(near(ref))},
			{"back at the time", away(ref, 3000), u, now, quiet(near(ref))},
			{"back, late", away(ref, 0), u, now, quiet(near(ref))},
		})
		return
	}
	check(t, []row{
		{"goes away", near(ref), u, now, quiet(away(ref, now))},
		{"away at once", away(ref, now), u, now, quiet(away(ref, now))},
		{"not yet long", away(ref, 3001), u, now, quiet(away(ref, 3001))},
		{"just long", away(ref, 3000), u, now, tells(u)},
		{"for long", away(ref, 0), u, now, tells(u)},
	})
}

// P19.1: dot products that are just the limit, and those near it, along each axis and over all of them.
func TestLimit(t *testing.T) {
	for _, off := range []int64{-limit, -one, -1000, -2, -1, 0, 1, 2, 1000, one - limit} {
		product, isNear := int64(limit)+off, off >= 0
		for _, sign := range []int64{1, -1} {
			checkPlace(t, v3(sign*one, 0, 0), v3(sign*product, 0, 0), isNear)
			checkPlace(t, v3(0, sign*one, 0), v3(0, sign*product, 0), isNear)
			checkPlace(t, v3(0, 0, sign*one), v3(0, 0, sign*product), isNear)
			checkPlace(t, v3(0, sign*product, 0), v3(0, sign*one, 0), isNear)
			checkPlace(t, v3(sign*one, one, -one), v3(sign*product, 500, 500), isNear)
			checkPlace(t, v3(one, one, one), v3(product-7, 3, 4), isNear)
			checkPlace(t, v3(0, sign*two, one), v3(two, 0, product), isNear)
		}
	}
}

// P19.1: what is held against the limit is the rounded product: the middle below the limit is told as the limit, the even one of both.
func TestRoundedProduct(t *testing.T) {
	const half = 1 << 29
	middle := int64(2*limit - 1) // by a half it is the limit less a half
	for _, sign := range []int64{1, -1} {
		checkPlace(t, v3(0, 0, sign*half), v3(0, 0, sign*middle), true)
		checkPlace(t, v3(0, 0, sign*half), v3(0, 0, sign*(middle-1)), false)
		checkPlace(t, v3(1, 0, sign*half), v3(-1, 7, sign*middle), false)
		checkPlace(t, v3(1, 0, sign*half), v3(1, 7, sign*middle), true)
		checkPlace(t, v3(1, -1, sign*half), v3(1, 1, sign*middle), true)
		checkPlace(t, v3(sign*middle, 1, 0), v3(sign*half, -1, 0), false)
		checkPlace(t, v3(0, sign*one, 1), v3(9, sign*limit, -half), true)
		checkPlace(t, v3(0, sign*one, 1), v3(9, sign*limit, -half-1), false)
		checkPlace(t, v3(0, sign*one, 1), v3(9, sign*(limit-1), half), true)
		checkPlace(t, v3(0, sign*one, 1), v3(9, sign*(limit-1), half-1), false)
	}
}

// P19.1: now - Since about 2000.
func TestLength(t *testing.T) {
	for _, since := range []int64{0, 1, 2, 1999, 2000, 1 << 31, 1 << 32, clock - 2002} {
		for _, long := range []int64{0, 1, 2, 1000, 1998, 1999} {
			check(t, []row{
				{"not long", away(up, since), north, since + long, quiet(away(up, since))},
				{"not long, just away", away(up, since), leaning(limit - 1), since + long, quiet(away(up, since))},
				{"back", away(up, since), leaning(limit), since + long, quiet(near(up))},
				{"goes away", near(up), north, since + long, quiet(away(up, since+long))},
			})
		}
		for _, now := range []int64{since + 2000, since + 2001, since + 2002, clock} {
			check(t, []row{
				{"long", away(up, since), north, now, tells(north)},
				{"long, just away", away(up, since), leaning(limit - 1), now, tells(leaning(limit - 1))},
				{"back", away(up, since), leaning(limit), now, quiet(near(up))},
				{"goes away", near(up), north, now, quiet(away(up, now))},
			})
		}
	}
}

// P19.1: now at Since, and one below it.
func TestAtSince(t *testing.T) {
	for _, since := range []int64{0, 1, 2000, 1 << 32, clock - 1, clock} {
		for _, u := range []api.Vec{up, north, {}} {
			check(t, []row{{"one below", away(up, since), u, since - 1, bad(api.ErrForm)}})
		}
		check(t, []row{
			{"at it", away(up, since), north, since, quiet(away(up, since))},
			{"at it, near", away(up, since), up, since, quiet(near(up))},
		})
	}
}

// P19.1: now, and Since, at 0 and at the last time.
func TestEndsOfTime(t *testing.T) {
	check(t, []row{
		{"off, at 0", api.Tilt{}, up, 0, quiet(near(up))},
		{"off, at the last time", api.Tilt{}, up, clock, quiet(near(up))},
		{"near, at 0", near(up), up, 0, quiet(near(up))},
		{"near, at the last time", near(up), up, clock, quiet(near(up))},
		{"goes away at 0: Since is 0 with it", near(up), north, 0, quiet(away(up, 0))},
		{"goes away at the last time", near(up), north, clock, quiet(away(up, clock))},
		{"away from 0 on, 1999", away(up, 0), north, 1999, quiet(away(up, 0))},
		{"away from 0 on, 2000", away(up, 0), north, 2000, tells(north)},
		{"away from 0 on, back", away(up, 0), up, 2000, quiet(near(up))},
		{"away all of the time", away(up, 0), north, clock, tells(north)},
		{"the last that is long", away(up, clock-2000), north, clock, tells(north)},
		{"the first that is not", away(up, clock-1999), north, clock, quiet(away(up, clock-1999))},
		{"away from the last time on", away(up, clock), north, clock, quiet(away(up, clock))},
		{"back at the last time", away(up, clock), up, clock, quiet(near(up))},
	})
}

// checkNumber takes a vector with the number n in a place, as Ref and as the sample: it is one, or none.
func checkNumber(t *testing.T, with func(n int64) api.Vec, n int64, isOne bool) {
	t.Helper()
	v := with(n)
	if isOne {
		check(t, []row{
			{"the first", api.Tilt{}, v, 9, quiet(near(v))},
			{"Ref, not left", near(v), v, 9, quiet(near(v))},
			{"Ref, left", near(v), v3(-v.X, -v.Y, -v.Z), 9, quiet(away(v, 9))},
			{"at last", away(v3(-v.X, -v.Y, -v.Z), 1), v, 2001, tells(v)},
		})
		return
	}
	for _, u := range []api.Vec{{}, up, v} {
		check(t, []row{
			{"Ref", near(v), u, 9, bad(api.ErrForm)},
			{"Ref, away", away(v, 1), u, 2001, bad(api.ErrForm)},
		})
	}
	check(t, []row{
		{"the first", api.Tilt{}, v, 9, bad(api.ErrForm)},
		{"near", near(up), v, 9, bad(api.ErrForm)},
		{"away", away(up, 1), v, 2001, bad(api.ErrForm)},
	})
}

// P19.1: numbers at -2 One and at 2 One, and one beyond each, in each place.
func TestEndsOfNumbers(t *testing.T) {
	places := []func(n int64) api.Vec{
		func(n int64) api.Vec { return v3(n, 0, 0) },
		func(n int64) api.Vec { return v3(0, n, 0) },
		func(n int64) api.Vec { return v3(0, 0, n) },
		func(n int64) api.Vec { return v3(n, two, -two) },
		func(n int64) api.Vec { return v3(-two, n, two) },
		func(n int64) api.Vec { return v3(two, two, n) },
		func(n int64) api.Vec { return v3(n, n, n) },
		func(n int64) api.Vec { return v3(n, -n, n) },
	}
	for _, with := range places {
		for _, n := range []int64{two, two - 1, -two, 1 - two} {
			checkNumber(t, with, n, true)
		}
		for _, n := range []int64{two + 1, two + 2, -two - 1, -two - 2} {
			checkNumber(t, with, n, false)
		}
	}
}

// P19.1: dot products at their least and at their greatest: sums of products that are no int64.
func TestEndsOfProducts(t *testing.T) {
	for _, x := range []int64{two, -two} {
		for _, y := range []int64{two, -two} {
			for _, z := range []int64{two, -two} {
				checkPlace(t, v3(x, y, z), v3(x, y, z), true)     // 3 * 2^32
				checkPlace(t, v3(x, y, z), v3(-x, -y, -z), false) // -3 * 2^32
				checkPlace(t, v3(x, y, z), v3(x, y, 0), true)
				checkPlace(t, v3(x, y, z), v3(0, -y, -z), false)
				checkPlace(t, v3(x, y, z), v3(x, y, -z), true)
				checkPlace(t, v3(x, y, z), v3(-x, y, -z), false)
				checkPlace(t, v3(x, y, z), v3(x-x/two, y-y/two, z-z/two), true)
			}
		}
	}
}

// P19.1: from a Ref of zeros all is away; a sample of zeros is away from all.
func TestZeros(t *testing.T) {
	zero := api.Vec{}
	for _, u := range []api.Vec{zero, up, v3(1, 2, 3), v3(two, two, two), v3(-two, -two, -two)} {
		checkPlace(t, zero, u, false)
		checkPlace(t, u, zero, false)
	}
	checkRun(t, api.Tilt{}, []part{
		{zero, 0, quiet(near(zero))},
		{up, 1, quiet(away(zero, 1))},
		{up, 2001, tells(up)},
		{up, 2002, quiet(near(up))},
	})
}
