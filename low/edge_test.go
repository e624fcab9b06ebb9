package low_test

import "testing"

// P12.1: results that lie just between two words go to the even one, above 0 and below it; those beside them to the nearest one. Each is placed by each s and in each number.
func TestHalves(t *testing.T) {
	tests := []struct{ y, below, half, above int64 }{ // what one part of 2^s below y + 1/2 is told as, y + 1/2 itself, one part above it
		{0, 0, 0, 1}, {1, 1, 2, 2}, {2, 2, 2, 3}, {3, 3, 4, 4}, {1000, 1000, 1000, 1001}, {1001, 1001, 1002, 1002},
		{-1, -1, 0, 0}, {-2, -2, -2, -1}, {-3, -3, -2, -2}, {-4, -4, -4, -3}, {-1000, -1000, -1000, -999}, {-1001, -1001, -1000, -1000},
		{1 << 44, 1 << 44, 1 << 44, 1<<44 + 1}, {1<<44 - 1, 1<<44 - 1, 1 << 44, 1 << 44},
		{-1 << 44, -1 << 44, -1 << 44, 1 - 1<<44}, {-1<<44 - 1, -1<<44 - 1, -1 << 44, -1 << 44},
		{top - 1<<15, top - 1<<15, top - 1<<15 + 1, top - 1<<15 + 1}, {-top, -top, 1 - top, 1 - top},
	}
	for s := 1; s <= last; s++ {
		half := int64(1) << (s - 1)
		for _, test := range tests {
			y := test.y
			for i := range 3 {
				for _, side := range []struct {
					name    string
					v, told int64
				}{
					{"just below a half", y + half - 1, test.below},
					{"a half", y + half, test.half},
					{"just above a half", y + half + 1, test.above},
				} {
					check(t, []row{
						{side.name, on(placed(all(9), i, y)), s, placed(all(9), i, side.v), good(placed(all(9), i, side.told))},
						{side.name + ", of the negatives", on(placed(all(9), i, -y)), s, placed(all(9), i, -side.v), good(placed(all(9), i, -side.told))},
					})
				}
			}
		}
	}
}

// P12.1: the same, reckoned by hand: from both sides, from near and from afar.
func TestHalvesByHand(t *testing.T) {
	check(t, []row{
		{"0.5", on(all(0)), 1, all(1), good(all(0))},
		{"0.5, from above", on(all(1)), 1, all(0), good(all(0))},
		{"1.5", on(all(0)), 1, all(3), good(all(2))},
		{"1.5, from above", on(all(2)), 1, all(1), good(all(2))},
		{"2.5", on(all(4)), 1, all(1), good(all(2))},
		{"-0.5", on(all(0)), 1, all(-1), good(all(0))},
		{"-1.5", on(all(0)), 1, all(-3), good(all(-2))},
		{"-2.5", on(all(-2)), 1, all(-3), good(all(-2))},
		{"-2.5, of unlike signs", on(all(-8)), 1, all(3), good(all(-2))},
		{"3.5 of three parts and one", on(all(5)), 2, all(-1), good(all(4))},
		{"4.5 of three parts and one", on(all(5)), 2, all(3), good(all(4))},
		{"-4.5 of seven parts and one", on(all(-5)), 3, all(-1), good(all(-4))},
		{"0.5 by the greatest s", on(all(0)), last, all(1 << 14), good(all(0))},
		{"more than 0.5 by the greatest s", on(all(0)), last, all(1<<14 + 1), good(all(1))},
		{"1.5 by the greatest s", on(all(0)), last, all(3 << 14), good(all(2))},
		{"less than 1.5 by the greatest s", on(all(1)), last, all(1 << 14), good(all(1))},
		{"0.5 by the greatest s, from above", on(all(1)), last, all(1 - 1<<14), good(all(0))},
		{"-1.5 by the greatest s", on(all(-1)), last, all(-1 - 1<<14), good(all(-2))},
	})
}

// P12.1: Y and v at the greatest and the least word, alike and of unlike signs, by s at its ends and between.
func TestEndsOfWords(t *testing.T) {
	for _, test := range []struct {
		s    int
		y, v int64
		told int64
	}{
		{0, top, top, top}, {1, top, top, top}, {8, top, top, top}, {last, top, top, top},
		{0, top, -top, -top}, {0, -top, top, top},
		{1, top, -top, 0},
		{2, top, -top, 1 << 44},               // 2^44 - 0.5
		{3, top, -top, 3<<43 - 1},             // 3 2^43 - 0.75
		{14, top, -top, top - 1<<32},          // top - 2^32 + 2^-13
		{last, top, -top, top - 1<<31},        // top - 2^31 + 2^-14
		{last, top, 0, top - 1<<30},           // top - 2^30 + 2^-15
		{last, 0, top, 1 << 30},               // 2^30 - 2^-15
		{1, 0, top, 1 << 44},                  // 2^44 - 0.5
		{1, top, top - 1, top - 1},            // top - 0.5
		{1, top - 1, top, top - 1},            // top - 0.5
		{1, top - 1, top - 2, top - 1},        // top - 1.5
		{last, top, top - 1, top},             // top - 2^-15
		{last, top - 1, top, top - 1},         // top - 1 + 2^-15
		{last, top, top - 1<<14, top - 1},     // top - 0.5
		{last, top, top - 1<<14 + 1, top},     // top - 0.5 + 2^-15
		{last, top, top - 1<<14 - 1, top - 1}, // top - 0.5 - 2^-15
		{last, top, 1, top - 1<<30},           // top - 2^30 + 2^-14
	} {
		for i := range 3 {
			check(t, []row{
				{"at an end", on(placed(all(5), i, test.y)), test.s, placed(all(5), i, test.v), good(placed(all(5), i, test.told))},
				{"at the other end", on(placed(all(5), i, -test.y)), test.s, placed(all(5), i, -test.v), good(placed(all(5), i, -test.told))},
			})
		}
	}
	check(t, []row{
		{"alike", on(v3(top, -top, top)), last, v3(top, -top, top), good(v3(top, -top, top))},
		{"unlike", on(v3(top, -top, top)), last, v3(-top, top, -top), good(v3(top-1<<31, 1<<31-top, top-1<<31))},
	})
}
