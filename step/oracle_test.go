package step_test

import "gimbal/api"

// What Take must tell, reckoned in another way: a whole number is above a quotient rounded down if it is above the quotient itself, so that nothing is divided.

func isTime(t int64) bool { return 0 <= t && t <= clock }

func isState(s api.Step) bool { return isTime(s.Last) && 0 <= s.Count && s.Count <= clock }

func isHigh(m int64) bool { return 8*(m-g) > g }

func isLow(m int64) bool { return 16*(g-m) > g }

func wantTake(s api.Step, m, now int64) answer {
	if !isState(s) || m < 0 || m >= 1<<45 || !isTime(now) || now < s.Last {
		return bad(api.ErrForm)
	}
	if !s.Up && isHigh(m) {
		return quiet(up(s.Last, s.Count))
	}
	if !s.Up || !isLow(m) {
		return quiet(s)
	}
	if s.Count != 0 && now < s.Last+250 {
		return quiet(down(s.Last, s.Count))
	}
	if s.Count == clock {
		return bad(api.ErrFull)
	}
	return tells(now, s.Count+1)
}
