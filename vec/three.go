package vec

import (
	"gimbal/api"
	"gimbal/fx"
)

// three is one of a kind for each of a vector's numbers: the number, two numbers that meet there, a row of a matrix.
type three[T any] [3]T

// of is the vector's numbers in their order.
func of(a api.Vec) three[int64] {
	return three[int64]{a.X, a.Y, a.Z}
}

// check tells whether all are vectors.
func check(list ...three[int64]) api.Errno {
	for _, a := range list {
		for _, v := range a {
			if e := fx.Check(v); e != api.OK {
				return e
			}
		}
	}
	return api.OK
}

// through makes a vector of what f tells at each place; all of it fails, if one does.
func through[T any](a three[T], f func(T) (int64, api.Errno)) (api.Vec, api.Errno) {
	var made three[int64]
	for i, v := range a {
		number, e := f(v)
		if e != api.OK {
			return api.Vec{}, e
		}
		made[i] = number
	}
	return api.Vec{X: made[0], Y: made[1], Z: made[2]}, api.OK
}

// meet is two numbers at one place.
type meet struct {
	a, b int64
}

// pairwise goes through both number by number. All of them are checked first: what is no word is told ahead of a result that is none, at whatever place it stands.
func pairwise(a, b three[int64], operation func(a, b int64) (int64, api.Errno)) (api.Vec, api.Errno) {
	if e := check(a, b); e != api.OK {
		return api.Vec{}, e
	}
	var pairs three[meet]
	for i := range pairs {
		pairs[i] = meet{a[i], b[i]}
	}
	return through(pairs, func(p meet) (int64, api.Errno) {
		return operation(p.a, p.b)
	})
}

// rowwise is each row times a, in Q30.
func rowwise(rows three[three[int64]], a three[int64]) (api.Vec, api.Errno) {
	if e := check(rows[0], rows[1], rows[2], a); e != api.OK {
		return api.Vec{}, e
	}
	return through(rows, func(row three[int64]) (int64, api.Errno) {
		return inQ30(row, a)
	})
}

// across is the matrix of which the rows times a make the cross product of a and b. Of a number that is no word the negative is none either: so the rows are as well formed as b is.
func across(b three[int64]) three[three[int64]] {
	x, y, z := b[0], b[1], b[2]
	return three[three[int64]]{
		{0, z, -y},
		{-z, 0, x},
		{y, -x, 0},
	}
}
