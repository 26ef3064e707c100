package roots

import "slices"

// stack is what still waits, the next one last.
type stack[T any] struct {
	list []T
}

// push makes the elements of a list the next ones, in their order.
func (s *stack[T]) push(list ...T) {
	for _, x := range slices.Backward(list) {
		s.list = append(s.list, x)
	}
}

// pop returns the next one, and false if there is none.
func (s *stack[T]) pop() (T, bool) {
	var next T
	n := len(s.list)
	if n == 0 {
		return next, false
	}
	next, s.list = s.list[n-1], s.list[:n-1]
	return next, true
}
