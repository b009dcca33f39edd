package terms

import (
	"slices"
	"sync"
)

// finding is what a goroutine found of the thing with an index.
type finding[U any] struct {
	index int
	found []U
}

// Gather has a goroutine look at each of several things, and returns all that they found, in the order of the things.
func Gather[T, U any](things []T, look func(T) []U) []U {
	something, nothing := make(chan finding[U]), make(chan struct{})
	for i, x := range things {
		go func() {
			if found := look(x); len(found) > 0 {
				something <- finding[U]{index: i, found: found}
			} else {
				nothing <- struct{}{}
			}
		}()
	}
	all := make([][]U, len(things))
	for range things {
		select {
		case f := <-something:
			all[f.index] = f.found
		case <-nothing:
		}
	}
	return slices.Concat(all...)
}

// Sift has a goroutine look at each of several things, and returns what they found of those of which there is something, in any order.
func Sift[T, U any](things []T, look func(T) (U, bool)) []U {
	something := make(chan U, len(things))
	var workers sync.WaitGroup
	for _, x := range things {
		workers.Add(1)
		go func() {
			defer workers.Done()
			if found, ok := look(x); ok {
				something <- found
			}
		}()
	}
	workers.Wait()
	close(something)
	var all []U
	for found := range something {
		all = append(all, found)
	}
	return all
}
