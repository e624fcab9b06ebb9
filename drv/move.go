package drv

import (
	"gimbal/api"
	"gimbal/table"
)

// move is which state one becomes by what is wanted.
type move struct {
	same  int // wanted, with the period that it has
	other int // wanted, with another one
	idle  int // not wanted
}

// to is the move by what is wanted.
func (m move) to(want, another bool) int {
	switch {
	case !want:
		return m.idle
	case another:
		return m.other
	}
	return m.same
}

// moves are those of the states, each at its state.
func moves() table.Rows[move] {
	return table.Rows[move]{
		api.DrvOff:    {same: api.DrvID, other: api.DrvID, idle: api.DrvOff},
		api.DrvID:     {same: api.DrvID, other: api.DrvID, idle: api.DrvStop},
		api.DrvPeriod: {same: api.DrvPeriod, other: api.DrvPeriod, idle: api.DrvStop},
		api.DrvStart:  {same: api.DrvStart, other: api.DrvPeriod, idle: api.DrvStop},
		api.DrvOn:     {same: api.DrvOn, other: api.DrvPeriod, idle: api.DrvStop},
		api.DrvBurst:  {same: api.DrvBurst, other: api.DrvPeriod, idle: api.DrvStop},
		api.DrvStop:   {same: api.DrvID, other: api.DrvID, idle: api.DrvStop},
		api.DrvReset:  {same: api.DrvReset, other: api.DrvReset, idle: api.DrvReset},
		api.DrvFailed: {same: api.DrvFailed, other: api.DrvFailed, idle: api.DrvFailed},
	}
}
