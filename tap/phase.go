package tap

import (
	"gimbal/api"
	"gimbal/table"
)

const (
	none    = 0   // the mark where there is no time
	longest = 60  // ticks of a jerk: one that lasts longer is no tap
	widest  = 300 // ticks between the taps of a double one
)

// What a sample finds, and makes of it.
const (
	still  = iota // there is no jerk
	begun         // one begins
	lasts         // one goes on
	single        // one ends, and is a tap
	double        // one ends, and is a tap soon behind another one
	push          // one ends that lasted too long
)

func phase(t api.Tap, jerk, mark int64) int {
	strong, running := jerk > api.Gravity, t.Since != none
	switch {
	case strong && running:
		return lasts
	case strong:
		return begun
	case !running:
		return still
	case mark-t.Since > longest:
		return push
	case t.Prev != none && mark-t.Prev <= widest:
		return double
	}
	return single
}

// row is what is told in a phase, and which marks stand behind it.
type row struct {
	kind        int
	since, prev int64
}

// rows are those of the phases, each at its phase. Behind a double tap Prev is none: a tap is one of at most one double.
func rows(t api.Tap, mark int64) table.Rows[row] {
	return table.Rows[row]{
		still:  {kind: 0, since: none, prev: t.Prev},
		begun:  {kind: 0, since: mark, prev: t.Prev},
		lasts:  {kind: 0, since: t.Since, prev: t.Prev},
		single: {kind: 1, since: none, prev: mark},
		double: {kind: 2, since: none, prev: none},
		push:   {kind: 0, since: none, prev: t.Prev},
	}
}
