package split_test

import (
	"math/big"
	"testing"

	"gimbal/api"
	"gimbal/split"
)

// P16.1: gravity's numbers just between two whole numbers, which they are where u is 1/4 or 3/4 alone, and where u is one unit beside. Of these orientations u itself is rounded ahead of that.
func TestHalvesOfGravity(t *testing.T) {
	for _, c := range []struct {
		f    api.Fuse
		i    int
		u    int64
		want answer
	}{
		{f4(81984758, 134894734, -10413430, 1062023999), 0, 1<<28 - 1, good(2451662, 0, 9495248)},
		{f4(248179428, -131572544, -31522921, -1035868450), 0, 1 << 28, good(2451662, 0, 9495248)}, // 2451662.5
		{f4(-685857155, 103517906, 87115281, 814994746), 0, 1<<28 + 1, good(2451663, 0, 9495248)},
		{f4(-217024273, -132458150, -27565696, 1042840803), 0, -1<<28 - 1, good(-2451663, 0, 9495248)},
		{f4(-149996566, 133947930, -19052062, -1054569821), 0, -1 << 28, good(-2451662, 0, 9495248)},
		{f4(102365602, -134669868, 13002136, 1060253630), 0, -1<<28 + 1, good(-2451662, 0, 9495248)},
		{f4(485085465, -383689400, -218975451, -849968113), 0, 3<<28 - 1, good(7354987, 0, 6486489)},
		{f4(852510688, -216951986, -384837161, -480602983), 0, 3 << 28, good(7354988, 0, 6486489)}, // 7354987.5
		{f4(-778873074, -267484755, 351595948, -592545722), 0, 3<<28 + 1, good(7354988, 0, 6486489)},
		{f4(934117090, -131747792, 421675616, 291854354), 0, -3<<28 - 1, good(-7354988, 0, 6486489)},
		{f4(-769934872, -272706966, -347561096, 604114224), 0, -3 << 28, good(-7354988, 0, 6486489)},
		{f4(-259918762, 425912094, -117331549, -943501955), 0, -3<<28 + 1, good(-7354987, 0, 6486489)},
		{f4(-35772103, -4543652, 135219762, 1064582937), 1, 1<<28 - 1, good(0, 2451662, 9495248)},
		{f4(-116645184, -14815882, 134482410, 1058777775), 1, 1 << 28, good(0, 2451662, 9495248)},
		{f4(-1051925823, -133612099, -21279948, -167536685), 1, 1<<28 + 1, good(0, 2451663, 9495248)},
		{f4(992639953, -126081806, -49075527, 386370808), 1, -1<<28 - 1, good(0, -2451663, 9495248)},
		{f4(790827932, -100448318, 90637544, -713587878), 1, -1 << 28, good(0, -2451662, 9495248)},
		{f4(7306130, -927999, 135292896, -1065158720), 1, -1<<28 + 1, good(0, -2451662, 9495248)},
		{f4(-978556490, -441736280, -6071448, -13449776), 1, 3<<28 - 1, good(0, 7354987, 6486489)},
		{f4(-643375297, -290430051, 332893661, 737442829), 1, 3 << 28, good(0, 7354988, 6486489)},
		{f4(-956280101, -431680359, -93914180, -208043429), 1, 3<<28 + 1, good(0, 7354988, 6486489)},
		{f4(283249867, -127863586, -422869612, 936762090), 1, -3<<28 - 1, good(0, -7354988, 6486489)},
		{f4(355999529, -160703964, -411511896, 911601907), 1, -3 << 28, good(0, -7354988, 6486489)},
		{f4(968928299, -437389959, -62111413, 137592336), 1, -3<<28 + 1, good(0, -7354987, 6486489)},
		{f4(766316680, 593586348, -282844150, -365150225), 2, 1<<28 - 1, good(0, 9495248, 2451662)},
		{f4(329408644, 255158838, -606002914, -782346398), 2, 1 << 28, good(0, 9495248, 2451662)},
		{f4(-470972338, -364813604, 547043507, 706230131), 2, 1<<28 + 1, good(0, 9495248, 2451663)},
		{f4(-654076320, -844408899, -86888159, -67303277), 2, -1<<28 - 1, good(0, 9495248, -2451663)},
		{f4(397662011, 513379450, 676030679, 523651113), 2, -1 << 28, good(0, 9495248, -2451662)},
		{f4(-58188121, -75120539, -845537015, -654950156), 2, -1<<28 + 1, good(0, 9495248, -2451662)},
		{f4(148981772, 56309818, -375425616, -993282814), 2, 3<<28 - 1, good(0, 6486489, 7354987)},
		{f4(744117112, 281249833, 254977881, 674608064), 2, 3 << 28, good(0, 6486489, 7354988)},
		{f4(-927660014, -350622527, -145530172, -385036640), 2, 3<<28 + 1, good(0, 6486489, 7354988)},
		{f4(-152336180, -403043651, 919979419, 347719536), 2, -3<<28 - 1, good(0, 6486489, -7354988)},
		{f4(284953572, 753916285, 663638871, 250831916), 2, -3 << 28, good(0, 6486489, -7354988)},
		{f4(-29638282, -78415524, 1001327779, 378466327), 2, -3<<28 + 1, good(0, 6486489, -7354987)},
	} {
		if u := upOf(c.f.Q)[c.i].Int64(); u != c.u {
			t.Errorf("%v shows %d, not %d", c.f, u, c.u)
		}
		checkGravity(t, "half", c.f, c.want)
		checkGravity(t, "half, by the opposite", opposite(c.f), c.want)
		checkLinear(t, "half", c.f, v3(5, 6, 7), good(5-c.want.v.X, 6-c.want.v.Y, 7-c.want.v.Z))
	}
}

// P16.1: a linear acceleration that is just a word in one number, and one beyond, on both sides.
func TestEndsOfLinear(t *testing.T) {
	for _, f := range append(someOrientations(t), longOnes()...) {
		gravity := wantGravity(f).v
		for i, v := range numbers(&gravity) {
			end, beyond := int64(top), int64(1)
			if *v > 0 {
				end, beyond = -top, -1
			}
			if *v == 0 {
				checkLinear(t, "a word is one still", f, placed(gravity, i, top), answer{v: placed(api.Vec{}, i, top)})
				checkLinear(t, "a word is one still", f, placed(gravity, i, -top), answer{v: placed(api.Vec{}, i, -top)})
				continue
			}
			checkLinear(t, "just a word", f, placed(gravity, i, end+*v), answer{v: placed(api.Vec{}, i, end)})
			checkLinear(t, "one beyond", f, placed(gravity, i, end+*v+beyond), bad(api.ErrRange))
			checkLinear(t, "far beyond", f, placed(gravity, i, end), bad(api.ErrRange))
			checkLinear(t, "on the other side", f, placed(gravity, i, -end), answer{v: placed(api.Vec{}, i, -end-*v)})
		}
	}
	f := towards(t, 3, -1, 4, -2)
	checkLinear(t, "all at their ends", f, v3(top-6537767, top-7191543, top-1307553), good(top, top, top))
	checkLinear(t, "all beyond", f, v3(top, top, top), bad(api.ErrRange))
	checkLinear(t, "the last one beyond", f, v3(0, 0, top-1307552), bad(api.ErrRange))
}

// P16.1: the device's y straight up, and straight down: there is no heading.
func TestNoHeading(t *testing.T) {
	up := []api.Fuse{towards(t, 1, 1, 0, 0), towards(t, 1, 1, 1, 1), towards(t, 3, 3, -4, -4), towards(t, 0, 0, 1, 1), f4(one/2+2, one/2+2, one/2+2, one/2+2), f4(-65171671, -65171671, 756447889, 756447889)}
	down := []api.Fuse{towards(t, 1, -1, 0, 0), towards(t, 1, -1, 1, -1), towards(t, -3, 3, 4, -4), towards(t, 0, 0, 1, -1), f4(one/2-2, 2-one/2, 2-one/2, one/2-2), f4(-297015265, 297015265, 698743649, -698743649)}
	for i, list := range [][]api.Fuse{up, down} {
		for _, f := range list {
			if h := aheadOf(f.Q)[2].Int64(); h != []int64{one, -one}[i] {
				t.Errorf("%v is not straight: %d", f, h)
			}
			checkHeading(t, "straight", f, angle{e: api.ErrZero})
			checkHeading(t, "straight, by the opposite", opposite(f), angle{e: api.ErrZero})
		}
	}
}

// P16.1: the device's y nearly straight up, and nearly straight down: its X and Y count as they are rounded.
func TestHeadingNearlyStraight(t *testing.T) {
	for _, c := range []struct {
		f    api.Fuse
		x, y int64
		want uint32
	}{
		{f4(750766245, 750766244, -113184803, -113184803), 0, 1, 0},
		{f4(715782012, 715782011, 253213078, 253213077), 1, 2, 316933406},
		{f4(635823746, 635823746, 414956523, 414956522), 1, 1, 1 << 29},
		{f4(734594654, 734594653, -191915213, -191915214), 2, 1, 756808418},
		{f4(-228430632, -228430631, 724071956, 724071956), 1, 0, quarter},
		{f4(121435178, 121435177, -749475984, -749475985), 2, -1, 1390675230},
		{f4(-626251907, -626251908, -429266001, -429266001), 1, -1, 3 << 29},
		{f4(747400280, 747400281, -133617256, -133617256), 0, -1, 2 * quarter},
		{f4(695097765, 695097765, 305450237, 305450238), -1, -1, 5 << 29},
		{f4(21294465, 21294464, 758951446, 758951446), -1, 0, 3 * quarter},
		{f4(-476682712, -476682711, -590960528, -590960528), -1, 1, 7 << 29},
		{f4(47832060, -47832060, -757741939, 757741938), 0, 1, 0},
		{f4(-752903980, 752903979, 97960968, -97960967), 1, 2, 316933406},
		{f4(23946253, -23946254, -758872406, 758872405), 1, 1, 1 << 29},
		{f4(-411943397, 411943398, 637780050, -637780049), 2, 0, quarter},
		{f4(-689308363, 689308363, -318299749, 318299750), 1, -1, 3 << 29},
		{f4(-738936081, 738936082, 174454067, -174454067), 0, -1, 2 * quarter},
		{f4(-505268940, 505268940, 566713375, -566713376), -1, -1, 5 << 29},
		{f4(740569224, -740569224, 167385719, -167385718), -1, 0, 3 * quarter},
		{f4(-376858511, 376858511, -659119424, 659119423), -1, 1, 7 << 29},
	} {
		if h := aheadOf(c.f.Q); h[0].Int64() != c.x || h[1].Int64() != c.y {
			t.Errorf("%v is headed to %v, not %d, %d", c.f, h, c.x, c.y)
		}
		checkHeading(t, "nearly straight", c.f, angle{a: c.want})
		checkHeading(t, "nearly straight, by the opposite", opposite(c.f), angle{a: c.want})
	}
}

// P16.1: the four quarters, and just beside them.
func TestHeadingsAtQuarters(t *testing.T) {
	const r = 759250125 // the root of 1/2, in Q30
	for _, c := range []struct {
		w, z int64
		want uint32
	}{
		{one, 0, 0}, {one, -1, 1}, {one, 1, 0xffffffff}, {one, -100, 127}, {one, 100, 0xffffff81},
		{r, -r, quarter}, {r, -r - 1, quarter + 1}, {r, 1 - r, quarter - 1}, {r + 30, 30 - r, quarter - 54}, {r - 30, -30 - r, quarter + 54},
		{0, one, 2 * quarter}, {1, one, 2*quarter + 1}, {-1, one, 2*quarter - 1}, {100, one, 2*quarter + 127}, {-100, one, 2*quarter - 127},
		{r, r, 3 * quarter}, {r, r - 1, 3*quarter + 1}, {r, r + 1, 3*quarter - 1}, {r + 30, r - 30, 3*quarter + 54}, {r - 30, r + 30, 3*quarter - 54},
	} {
		checkHeading(t, "at a quarter", f4(c.w, 0, 0, c.z), angle{a: c.want})
		checkHeading(t, "at a quarter, by the opposite", f4(-c.w, 0, 0, -c.z), angle{a: c.want})
	}
}

// P16.2: p and p0 alike, at 1, at the greatest word, and between.
func TestNoAltitude(t *testing.T) {
	for _, p := range []int64{1, 2, 3, 7, 100, 101325, 1 << 22, 1<<30 - 1, 1 << 30, 1 << 44, 1<<44 + 1, top - 1, top} {
		checkAltitude(t, "alike", p, p, 0)
	}
}

// P16.2: the least and the greatest pressures, and those next to them.
func TestEndsOfAltitudes(t *testing.T) {
	for _, c := range []struct{ p, p0, want int64 }{
		{1, top, 263085745},
		{1, top - 1, 263085745},
		{2, top, 257239395},
		{top - 1, top, 0},
		{1 << 44, top, 5846350},
		{1<<44 - 1, top, 5846350},
		{1<<44 + 1, top, 5846350},
		{1 << 43, 1 << 44, 5846350},
		{16869000, 16869001, 0}, // 0.49999998..
		{16868999, 16869000, 1}, // 0.50000001..
		{16868998, 16868999, 1},
		{5623000, 5623001, 1}, // 1.4999998..
		{5622999, 5623000, 2}, // 1.5000001..
	} {
		checkAltitude(t, "at an end", c.p, c.p0, c.want)
	}
}

// P16.2: doublings from 1 to the greatest word, and beside them, where the one that is split off is just there, and just not.
func TestDoublings(t *testing.T) {
	for k, want := range []int64{
		0, 5846350, 11692700, 17539050, 23385400, 29231749, 35078099, 40924449, 46770799, 52617149, 58463499, 64309849,
		70156199, 76002549, 81848899, 87695248, 93541598, 99387948, 105234298, 111080648, 116926998, 122773348, 128619698,
		134466048, 140312397, 146158747, 152005097, 157851447, 163697797, 169544147, 175390497, 181236847, 187083197,
		192929547, 198775896, 204622246, 210468596, 216314946, 222161296, 228007646, 233853996, 239700346, 245546696,
		251393045, 257239395,
	} {
		checkAltitude(t, "doubled", 1, 1<<k, want)
		for _, p := range []int64{3, 5, 1<<20 - 1, 1<<20 + 1} {
			if p <= top>>k {
				checkAltitude(t, "doubled", p, p<<k, want)
				checkAltitudeExactly(t, p, min(p<<k+1, top))
				checkAltitudeExactly(t, p, p<<k-1)
			}
		}
	}
}

func checkAltitudeExactly(t *testing.T, p, p0 int64) {
	t.Helper()
	h, e := split.Altitude(p, p0)
	back, e0 := split.Altitude(p0, p)
	if e != api.OK || e0 != api.OK || back != -h || !isAltitude(h, p, p0) {
		t.Errorf("Altitude(%d, %d): %d, %v; the other way round: %d, %v", p, p0, h, e, back, e0)
	}
}

// P16.2: pressures whose altitude lies nearest to the middle between two whole numbers, on either side: the fractions that come nearest to that power of e. The last ones are off by less than one limb can tell.
func TestAltitudesNearTheMiddle(t *testing.T) {
	for _, k := range []int64{0, 1, 2, 3, 1000, 123456, 2923175, 5846349, 5846350, 8434500, 11692699, 20000000, 50000000, 100000000, 150000000} {
		near := 0
		for i, p := range fractionsNear(powerOfE(2*k+1), power(places)) {
			p0, p := p[0], p[1]
			if p == 0 || p0 == 0 {
				continue
			}
			if above := side(p, p0, 2*k+1) > 0; above != (i%2 == 1) {
				t.Fatalf("%d / %d is on the wrong side of %d halves", p0, p, 2*k+1)
			}
			checkAltitudeExactly(t, p, p0)
			if isAltitude(k+int64(i%2), p, p0) {
				checkAltitude(t, "near the middle", p, p0, k+int64(i%2))
				near++
			}
		}
		if near < 3 {
			t.Errorf("near %d halves are %d fractions only", 2*k+1, near)
		}
	}
}

// fractionsNear are those that come nearest to n / d, of words: each second one lies above it.
func fractionsNear(n, d *big.Int) [][2]int64 {
	var list [][2]int64
	last, now := [2]*big.Int{num(0), num(1)}, [2]*big.Int{num(1), num(0)}
	for d.Sign() != 0 {
		part, rest := new(big.Int).QuoRem(n, d, new(big.Int))
		var next [2]*big.Int
		for i := range next {
			next[i] = new(big.Int).Add(by(part, now[i]), last[i])
			if !isWord(next[i]) {
				return list
			}
		}
		list = append(list, [2]int64{next[0].Int64(), next[1].Int64()})
		last, now, n, d = now, next, d, rest
	}
	return list
}
