package fx

import "gimbal/api"

// operate keeps the order of errors in one place: what is no word is told ahead of what the operation finds.
func operate(p pair[int64], operation func(pair[int64]) (int64, api.Errno)) (int64, api.Errno) {
	if !words(p) {
		return 0, api.ErrForm
	}
	return operation(p)
}

func words(p pair[int64]) bool {
	return each(p, Check) == pair[api.Errno]{api.OK, api.OK}
}

func sum(p pair[int64]) (int64, api.Errno) {
	return fit(p.first + p.second)
}

func difference(p pair[int64]) (int64, api.Errno) {
	return fit(p.first - p.second)
}

func product(p pair[int64]) (int64, api.Errno) {
	return share(p, api.One)
}

func quotient(p pair[int64]) (int64, api.Errno) {
	return share(pair[int64]{p.first, api.One}, p.second)
}

// share is R(the product of both / d). It works without signs: halves go to the even one, which is the same on both sides of 0.
func share(p pair[int64], d int64) (int64, api.Errno) {
	if d == 0 {
		return 0, api.ErrZero
	}
	q := nearest(times(each(p, size)), size(d))
	negative := (p.first < 0) != (p.second < 0)
	if negative != (d < 0) {
		return fit(-int64(q))
	}
	return fit(int64(q))
}

// fit tells v, if it is a word.
func fit(v int64) (int64, api.Errno) {
	if Check(v) != api.OK {
		return 0, api.ErrRange
	}
	return v, api.OK
}
