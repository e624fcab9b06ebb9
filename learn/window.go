package learn

// window is how many samples came one behind the other, and their sum. The samples themselves are not kept: nothing that is told needs them.
type window[T comparable] struct {
	sum   T
	count int
}

// isOpen tells whether w waits for more samples, till it has size of them: one that has none has no sum either.
func (w window[T]) isOpen(size int) bool {
	if w.count == 0 {
		return w == window[T]{}
	}
	return w.count > 0 && w.count < size
}

// with is w and one more sample.
func (w window[T]) with(sample T, plus func(a, b T) T) window[T] {
	return window[T]{sum: plus(w.sum, sample), count: w.count + 1}
}
