package motion_test

import (
	"testing"

	"gimbal/api"
	"gimbal/motion"
)

const (
	g     = 9806650
	tenth = 980665          // a tenth of g
	top   = 1<<api.Bits - 1 // the greatest word
	clock = 1 << 40         // the last time
)

// answer is what Take answers.
type answer struct {
	x    api.Motion
	told bool
	e    api.Errno
}

func taken(x api.Motion, m, now int64) answer {
	next, told, e := motion.Take(x, m, now)
	return answer{next, told, e}
}

var off = api.Motion{} // the only state that is not on

// on is a state that is not told.
func on(start, least, most int64, moved int) api.Motion {
	return api.Motion{On: true, Start: start, Min: least, Max: most, Moved: moved}
}

// toldOf is that state, told.
func toldOf(x api.Motion) api.Motion {
	x.Told = true
	return x
}

func quiet(x api.Motion) answer { return answer{x: x} }
func tells(x api.Motion) answer { return answer{x: toldOf(x), told: true} }
func bad(e api.Errno) answer    { return answer{e: e} }

type row struct {
	name   string
	x      api.Motion
	m, now int64
	want   answer
}

func check(t *testing.T, rows []row) {
	t.Helper()
	for _, r := range rows {
		if got := taken(r.x, r.m, r.now); got != r.want {
			t.Errorf("%s: Take(%+v, %d, %d): %+v, not %+v", r.name, r.x, r.m, r.now, got, r.want)
		}
		if got := wantTake(r.x, r.m, r.now); got != r.want {
			t.Errorf("%s: the test itself is at odds: %+v, not %+v", r.name, got, r.want)
		}
	}
}

// part is a magnitude that is taken at a time, and what is answered.
type part struct {
	m, now int64
	want   answer
}

// checkRun takes one part behind the other, each with the state that the one ahead of it answered.
func checkRun(t *testing.T, x api.Motion, parts []part) api.Motion {
	t.Helper()
	for _, p := range parts {
		check(t, []row{{"in a run", x, p.m, p.now, p.want}})
		x = p.want.x
	}
	return x
}

// P21.1: the chapter's example: five windows with 0 and 2000000 in each: told as the fifth ends.
func TestExample(t *testing.T) {
	checkRun(t, off, []part{
		{0, 0, quiet(on(0, 0, 0, 0))},
		{2000000, 500, quiet(on(0, 0, 2000000, 0))},
		{0, 1000, quiet(on(1000, 0, 0, 0b1))},
		{2000000, 1500, quiet(on(1000, 0, 2000000, 0b1))},
		{0, 2000, quiet(on(2000, 0, 0, 0b11))},
		{2000000, 2500, quiet(on(2000, 0, 2000000, 0b11))},
		{0, 3000, quiet(on(3000, 0, 0, 0b111))},
		{2000000, 3500, quiet(on(3000, 0, 2000000, 0b111))},
		{0, 4000, quiet(on(4000, 0, 0, 0b1111))},
		{2000000, 4500, quiet(on(4000, 0, 2000000, 0b1111))},
		{0, 5000, tells(on(5000, 0, 0, 0b11111))},
		{2000000, 5500, quiet(toldOf(on(5000, 0, 2000000, 0b11111)))},
		{0, 6000, quiet(toldOf(on(6000, 0, 0, 0b111111)))},
	})
}

// P21.1: the first magnitude opens a window with itself, wherever and whenever it is.
func TestFirst(t *testing.T) {
	for _, m := range []int64{0, 1, tenth, g, 1 << 32, top} {
		for _, now := range []int64{0, 1, 999, 1000, 5000, 1 << 32, clock} {
			check(t, []row{{"the first one", off, m, now, quiet(on(now, m, m, 0))}})
		}
	}
}

// P21.1: one window: lower, between, higher, and alike; with the end of it the magnitude belongs to the next one alone.
func TestWindow(t *testing.T) {
	checkRun(t, off, []part{
		{g, 70, quiet(on(70, g, g, 0))},
		{g, 80, quiet(on(70, g, g, 0))},
		{g - 500, 90, quiet(on(70, g-500, g, 0))},
		{g - 100, 100, quiet(on(70, g-500, g, 0))},
		{g + 300, 500, quiet(on(70, g-500, g+300, 0))},
		{g + 300, 600, quiet(on(70, g-500, g+300, 0))},
		{g - 500, 700, quiet(on(70, g-500, g+300, 0))},
		{g + 301, 800, quiet(on(70, g-500, g+301, 0))},
		{g - 501, 1069, quiet(on(70, g-501, g+301, 0))},
		{0, 1070, quiet(on(1070, 0, 0, 0))}, // far below the window that ends, which did not move
		{g, 1070, quiet(on(1070, 0, g, 0))},
		{g, 2069, quiet(on(1070, 0, g, 0))},
		{g, 2070, quiet(on(2070, g, g, 0b1))}, // the one that ends moved
		{g, 3070, quiet(on(3070, g, g, 0b10))},
	})
}

// P21.1: a window ends with the first magnitude behind its time, however late it comes: no other window lies between.
func TestSeldom(t *testing.T) {
	for _, later := range []int64{1000, 1001, 1999, 2000, 9000, 1 << 31, 1 << 32, 1<<40 - 5} {
		now := 5 + later
		check(t, []row{
			{"still", on(5, g, g, 0b101), 7, now, quiet(on(now, 7, 7, 0b1010))},
			{"moved", on(5, 0, g, 0b101), 7, now, quiet(on(now, 7, 7, 0b1011))},
			{"still, told", toldOf(on(5, g, g, 0b10000000)), 7, now, quiet(on(now, 7, 7, 0))},
			{"moved, the fifth one", on(5, 0, g, 0b1010011), 7, now, tells(on(now, 7, 7, 0b10100111))},
		})
	}
}

// ran is windows one behind the other: in each a magnitude of 0 and, if it moves, one of g; 1000 ticks later it ends with the 0 of the next one. What is answered at the ends is held against the parts of want.
func ran(t *testing.T, x api.Motion, moves string, want []answer) api.Motion {
	t.Helper()
	for i, move := range moves {
		if move == '1' {
			check(t, []row{{"within a window", x, g, x.Start + 400, quiet(raised(x))}})
			x = raised(x)
		}
		check(t, []row{{"the end of window " + moves[:i+1], x, 0, x.Start + 1000, want[i]}})
		x = want[i].x
	}
	return x
}

// raised is a state whose window has seen g.
func raised(x api.Motion) api.Motion {
	x.Max = g
	return x
}

// P21.1: more windows behind five that moved tell nothing; nor do eight behind those that did not move; behind those five are told again.
func TestToldAgain(t *testing.T) {
	at := func(k int64, moved int) api.Motion { return on(1000*k, 0, 0, moved) }
	x := ran(t, at(0, 0), "11111"+"1111", []answer{
		quiet(at(1, 0b1)), quiet(at(2, 0b11)), quiet(at(3, 0b111)), quiet(at(4, 0b1111)), tells(at(5, 0b11111)),
		quiet(toldOf(at(6, 0b111111))), quiet(toldOf(at(7, 0b1111111))), quiet(toldOf(at(8, 255))), quiet(toldOf(at(9, 255))),
	})
	x = ran(t, x, "00000000", []answer{
		quiet(toldOf(at(10, 0b11111110))), quiet(toldOf(at(11, 0b11111100))), quiet(toldOf(at(12, 0b11111000))), quiet(toldOf(at(13, 0b11110000))),
		quiet(toldOf(at(14, 0b11100000))), quiet(toldOf(at(15, 0b11000000))), quiet(toldOf(at(16, 0b10000000))), quiet(at(17, 0)),
	})
	ran(t, x, "0"+"11111"+"0", []answer{
		quiet(at(18, 0)),
		quiet(at(19, 0b1)), quiet(at(20, 0b11)), quiet(at(21, 0b111)), quiet(at(22, 0b1111)), tells(at(23, 0b11111)),
		quiet(toldOf(at(24, 0b111110))),
	})
}

// P21.1: seven windows that did not move are too few: what moves behind them is not told, however long.
func TestTooFewStill(t *testing.T) {
	at := func(k int64, moved int) api.Motion { return toldOf(on(1000*k, 0, 0, moved)) }
	ran(t, at(0, 0b11111), "0000000"+"11111"+"111", []answer{
		quiet(at(1, 0b111110)), quiet(at(2, 0b1111100)), quiet(at(3, 0b11111000)), quiet(at(4, 0b11110000)),
		quiet(at(5, 0b11100000)), quiet(at(6, 0b11000000)), quiet(at(7, 0b10000000)),
		quiet(at(8, 0b1)), quiet(at(9, 0b11)), quiet(at(10, 0b111)), quiet(at(11, 0b1111)), quiet(at(12, 0b11111)),
		quiet(at(13, 0b111111)), quiet(at(14, 0b1111111)), quiet(at(15, 255)),
	})
}

// P21.1: the five may lie among others, of the last eight: of nine they are too few.
func TestScattered(t *testing.T) {
	at := func(k int64, moved int) api.Motion { return on(1000*k, 0, 0, moved) }
	ran(t, at(0, 0), "10110011", []answer{
		quiet(at(1, 0b1)), quiet(at(2, 0b10)), quiet(at(3, 0b101)), quiet(at(4, 0b1011)),
		quiet(at(5, 0b10110)), quiet(at(6, 0b101100)), quiet(at(7, 0b1011001)), tells(at(8, 0b10110011)),
	})
	ran(t, at(0, 0), "1011000111", []answer{
		quiet(at(1, 0b1)), quiet(at(2, 0b10)), quiet(at(3, 0b101)), quiet(at(4, 0b1011)),
		quiet(at(5, 0b10110)), quiet(at(6, 0b101100)), quiet(at(7, 0b1011000)), quiet(at(8, 0b10110001)),
		quiet(at(9, 0b01100011)), tells(at(10, 0b11000111)),
	})
}
