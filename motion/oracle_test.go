package motion_test

import (
	"strconv"
	"strings"

	"gimbal/api"
)

// What Take must tell, reckoned in another way: the windows are a text of eight digits, one is written at its end and one cut off at its beginning; a whole number is above a quotient rounded down if it is above the quotient itself, so that nothing is divided.

func isTime(t int64) bool { return 0 <= t && t <= clock }

func isMagnitude(m int64) bool { return 0 <= m && m < 1<<45 }

func isState(x api.Motion) bool {
	if !x.On {
		return !x.Told && x.Start == 0 && x.Min == 0 && x.Max == 0 && x.Moved == 0
	}
	return isTime(x.Start) && isMagnitude(x.Min) && isMagnitude(x.Max) && x.Max >= x.Min && x.Moved>>8 == 0
}

// hasMoved tells of a window with that least and that greatest magnitude.
func hasMoved(least, most int64) bool { return 10*(most-least) > g }

func digit(moved bool) string {
	if moved {
		return "1"
	}
	return "0"
}

// digits is the last eight windows, the oldest one first.
func digits(moved int) string {
	text := "00000000" + strconv.FormatInt(int64(moved), 2)
	return text[len(text)-8:]
}

// number is what those digits stand for.
func number(text string) int {
	n := 0
	for _, c := range text {
		n += n + int(c-'0')
	}
	return n
}

func wantTake(x api.Motion, m, now int64) answer {
	if !isState(x) || !isMagnitude(m) || !isTime(now) || now < x.Start {
		return bad(api.ErrForm)
	}
	if !x.On {
		return quiet(on(now, m, m, 0))
	}
	if now < x.Start+1000 {
		if m < x.Min {
			x.Min = m
		} else if m > x.Max {
			x.Max = m
		}
		return quiet(x)
	}
	text := digits(x.Moved)[1:] + digit(hasMoved(x.Min, x.Max))
	next := on(now, m, m, number(text))
	switch count := strings.Count(text, "1"); {
	case x.Told && count > 0:
		return quiet(toldOf(next))
	case !x.Told && count > 4:
		return tells(next)
	}
	return quiet(next)
}
