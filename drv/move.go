package drv

import "gimbal/api"

// table is rows, each at the number of its state.
type table[R any] []R

// at is the row of a state, and whether there is such a state.
func (t table[R]) at(state int) (row R, there bool) {
	if state < 0 || state >= len(t) {
		return row, false
	}
	return t[state], true
}

// move is which state one becomes by what is wanted.
type move struct {
	same  int // wanted, with the period that it has
	other int // wanted, with another one
	idle  int // not wanted
}

// to is the move by what is wanted.
func (m move) to(want, another bool) int {
	switch {
	case !want:
		return m.idle
	case another:
		return m.other
	}
	return m.same
}

func moves() table[move] {
	return table[move]{
		api.DrvOff:    {same: api.DrvID, other: api.DrvID, idle: api.DrvOff},
		api.DrvID:     {same: api.DrvID, other: api.DrvID, idle: api.DrvStop},
		api.DrvPeriod: {same: api.DrvPeriod, other: api.DrvPeriod, idle: api.DrvStop},
		api.DrvStart:  {same: api.DrvStart, other: api.DrvPeriod, idle: api.DrvStop},
		api.DrvOn:     {same: api.DrvOn, other: api.DrvPeriod, idle: api.DrvStop},
		api.DrvBurst:  {same: api.DrvBurst, other: api.DrvPeriod, idle: api.DrvStop},
		api.DrvStop:   {same: api.DrvID, other: api.DrvID, idle: api.DrvStop},
		api.DrvReset:  {same: api.DrvReset, other: api.DrvReset, idle: api.DrvReset},
		api.DrvFailed: {same: api.DrvFailed, other: api.DrvFailed, idle: api.DrvFailed},
	}
}
