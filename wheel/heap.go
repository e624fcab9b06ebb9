package wheel

// ranked is a thing that knows which others it comes ahead of.
type ranked[T any] interface {
	ahead(other T) bool
}

// heap is things none of which comes ahead of its parent, so that the first of all lies at place 0.
type heap[T ranked[T]] struct {
	things []T
}

func (h *heap[T]) push(x T) {
	h.things = append(h.things, x)
	h.rise(len(h.things) - 1)
}

// drop takes out the thing at place i, and tells it.
func (h *heap[T]) drop(i int) T {
	var none T
	x, last := h.things[i], len(h.things)-1
	h.things[i] = h.things[last]
	h.things[last] = none // lest the heap keep what it no longer holds
	h.things = h.things[:last]
	if i < last {
		h.rise(i) // the last one need not have lain below place i: it may belong above it
		h.sink(i)
	}
	return x
}

// rise moves the thing at place i past all parents that it comes ahead of.
func (h *heap[T]) rise(i int) {
	for i > 0 && h.ahead(i, parent(i)) {
		h.swap(i, parent(i))
		i = parent(i)
	}
}

// sink moves the thing at place i past all children that come ahead of it.
func (h *heap[T]) sink(i int) {
	for first := h.foremost(i); first != i; first = h.foremost(i) {
		h.swap(i, first)
		i = first
	}
}

// foremost is the place, of i and its children, whose thing comes ahead of the others.
func (h *heap[T]) foremost(i int) int {
	first := i
	for child := 2*i + 1; child <= 2*i+2 && child < len(h.things); child++ {
		if h.ahead(child, first) {
			first = child
		}
	}
	return first
}

func (h *heap[T]) ahead(i, j int) bool {
	return h.things[i].ahead(h.things[j])
}

func (h *heap[T]) swap(i, j int) {
	h.things[i], h.things[j] = h.things[j], h.things[i]
}

func parent(i int) int {
	return (i - 1) / 2
}
