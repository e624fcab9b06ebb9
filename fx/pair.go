package fx

import "cmp"

// pair is two of a kind: what an operation is given, what was found of both, or the high and the low half of a number of 128 bits.
type pair[T comparable] struct {
	first, second T
}

// each tells what f makes of both.
func each[S, T comparable](p pair[S], f func(S) T) pair[T] {
	return pair[T]{f(p.first), f(p.second)}
}

// below holds pairs against each other as the halves of wide numbers are: the first ones decide, unless they are the same.
func below[T cmp.Ordered](p, q pair[T]) bool {
	if p.first != q.first {
		return p.first < q.first
	}
	return p.second < q.second
}
