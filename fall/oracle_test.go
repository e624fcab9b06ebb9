package fall_test

import "gimbal/api"

// What Take must tell, reckoned in another way: a whole number is above a quotient rounded down if it is above the quotient itself, and below it if the next one is not above the quotient, so that nothing is divided.

func isTime(t int64) bool { return 0 <= t && t <= clock }

func isState(f api.Fall) bool {
	return isTime(f.Since) && (f.Low || f.Since == 0 && !f.Told)
}

func isWeightless(m int64) bool { return 4*(m+1) <= g }

func isHeld(m int64) bool { return m+m > g }

func wantTake(f api.Fall, m, now int64) answer {
	if !isState(f) || m < 0 || m >= 1<<45 || !isTime(now) || now < f.Since {
		return bad(api.ErrForm)
	}
	if isHeld(m) {
		return quiet(high)
	}
	if !isWeightless(m) {
		return quiet(f)
	}
	if !f.Low {
		return quiet(low(now))
	}
	if f.Told || now < f.Since+100 {
		return quiet(f)
	}
	return tells(f.Since)
}
