package stint

import (
	"slices"
	"sync"

	"lagan/api"
	"lagan/terms"
)

// ableIn returns who may do a dive in a case.
func (c checked) ableIn(x depthCase, dive int) crew {
	d := c.Dives[dive]
	var able crew
	for man, m := range c.Men {
		able[man] = x.depths[d.Place] <= m.Deepest && d.Ticks <= x.stays[d.Place]
	}
	return able
}

// duty asks of a case about a man and a dive.
type duty struct {
	checked
	man, dive int
}

func (d duty) isAllowed(x depthCase) bool { return d.ableIn(x, d.dive)[d.man] }

// trial asks of a case about a rota.
type trial struct {
	checked
	rota rota
}

func (t trial) isGood(x depthCase) bool {
	for dive := range t.Dives {
		if !t.ableIn(x, dive).hasAll(t.rota[dive]) {
			return false
		}
	}
	return t.isRested(t.rota, len(t.Dives))
}

// roster is a book with a case, and who surely may do each of its dives.
type roster struct {
	checked
	may []crew
}

// rosterOf checks a book, and finds who surely may do what.
func rosterOf(b api.StintBook) (roster, api.Hitch) {
	c, h := check(b)
	if h != api.Smooth {
		return roster{}, h
	}
	if !c.hasCase() {
		return roster{}, api.Adrift
	}
	return roster{checked: c, may: c.whoMay()}, api.Smooth
}

// whoMay returns for each dive who surely may do it; a goroutine for each man looks at all dives.
func (c checked) whoMay() []crew {
	may := make([]crew, len(c.Dives))
	var lock sync.Mutex
	var workers sync.WaitGroup
	for man := range c.Men {
		workers.Add(1)
		go func() {
			defer workers.Done()
			sure := c.surely(man)
			lock.Lock()
			defer lock.Unlock()
			for _, dive := range sure {
				may[dive][man] = true
			}
		}()
	}
	workers.Wait()
	return may
}

// surely returns the dives that a man surely may do.
func (c checked) surely(man int) []int {
	var sure []int
	for dive := range c.Dives {
		may := duty{checked: c, man: man, dive: dive}.isAllowed
		if u, h := terms.Known(c.cases(), may); u == api.Surely && h == api.Smooth {
			sure = append(sure, dive)
		}
	}
	return sure
}

// suffices tells whether there is a rota with some men alone.
func (r roster) suffices(men []int) bool {
	_, found := terms.First(r.with(men).rotas())
	return found
}

// with returns the roster in which none but some men may do anything.
func (r roster) with(men []int) roster {
	o := r
	o.may = nil
	for _, able := range r.may {
		o.may = append(o.may, able.common(crewOf(men)))
	}
	return o
}

// canSpare tells whether there is a rota without some dives.
func (r roster) canSpare(dives []int) bool {
	_, found := terms.First(r.without(dives).rotas())
	return found
}

// without returns the roster without some dives.
func (r roster) without(dives []int) roster {
	o := r
	o.Dives, o.may = nil, nil
	for dive, d := range r.Dives {
		if !slices.Contains(dives, dive) {
			o.Dives = append(o.Dives, d)
			o.may = append(o.may, r.may[dive])
		}
	}
	return o
}
