package drag

import (
	"sync"

	"lagan/terms"
)

// A list of news has the indexes of lines, and those of leads, each of which counts as many more as there are lines.

// divide returns the lines and the leads of a list of news.
func (b book) divide(news []int) (lines, leads []int) {
	for _, i := range news {
		if i < len(b.Lines) {
			lines = append(lines, i)
		} else {
			leads = append(leads, i-len(b.Lines))
		}
	}
	return lines, leads
}

// only returns the book with no other news than those of a list.
func (b book) only(news []int) book {
	lines, leads := b.divide(news)
	o := b
	o.Lines, o.Leads = terms.Pick(b.Lines, lines), terms.Pick(b.Leads, leads)
	return o
}

// clashes tells whether there is no case with the news of a list alone.
func (c checked) clashes(news []int) bool {
	o := c
	o.book = c.only(news)
	return !o.hasCase()
}

// clash returns the fewest news with which alone there is no case, of a book that has none.
func (c checked) clash() []int {
	all := terms.Lists(len(c.Lines) + len(c.Leads))
	var lock sync.Mutex
	var found [][]int
	var workers sync.WaitGroup
	for _, l := range all {
		workers.Add(1)
		go func() {
			defer workers.Done()
			if c.clashes(l) {
				lock.Lock()
				defer lock.Unlock()
				found = append(found, l)
			}
		}()
	}
	workers.Wait()
	return terms.Best(terms.Fewest, all[len(all)-1], found...)
}
