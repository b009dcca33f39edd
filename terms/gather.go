package terms

import "slices"

// finding is what a goroutine found of the thing with an index.
type finding[U any] struct {
	index int
	found []U
}

// Gather has a goroutine look at each of several things, and returns all that they found, in the order of the things.
func Gather[T, U any](things []T, look func(T) []U) []U {
	something, nothing := make(chan finding[U]), make(chan struct{})
	for i, x := range things {
		go func() {
			if found := look(x); len(found) > 0 {
				something <- finding[U]{index: i, found: found}
			} else {
				nothing <- struct{}{}
			}
		}()
	}
	all := make([][]U, len(things))
	for range things {
		select {
		case f := <-something:
			all[f.index] = f.found
		case <-nothing:
		}
	}
	return slices.Concat(all...)
}
