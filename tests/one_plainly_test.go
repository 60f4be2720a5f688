package tests

import (
	"fmt"
	"slices"

	"loop.example/landmarch/impl"
)

// Chapter 15 in the document's words, with its numbers written out: what the program is held against.

// oneOfPlainly is of a world that is ok.
func oneOfPlainly(w impl.WldWorld) impl.OneWorld {
	var states []impl.CllCell
	for _, s := range w.Stores {
		state, _ := foldPlainly(w.Map, s.Base, s.Recs)
		states = append(states, state)
	}
	return oneOfStatesPlainly(w.Map, states)
}

// oneOfStatesPlainly is of the states of all stores.
func oneOfStatesPlainly(m impl.PlcMap, states []impl.CllCell) impl.OneWorld {
	o := impl.OneWorld{Map: m}
	var found []impl.OneWalker
	for _, state := range states {
		o.Ground = append(o.Ground, state.Ground)
		o.Air = append(o.Air, []int{0, 0})
		for _, w := range state.Walkers {
			found = append(found, impl.OneWalker{Walker: w, Here: true})
		}
	}
	for cell, state := range states {
		for side := range 2 {
			there := besidePlainly(m, cell, side)
			for _, p := range state.Outs[side] {
				switch {
				case p.N < states[there].Ins[1-side]:
				case p.Kind == 1:
					found = append(found, impl.OneWalker{Walker: p.Walker})
				case p.Kind == 2:
					o.Air[there][1-side] += p.Coins
				}
			}
		}
	}
	for id := 1; id <= 9; id++ {
		for _, w := range found {
			if w.Walker.Id == id {
				o.Walkers = append(o.Walkers, w)
			}
		}
	}
	return o
}

// oneOkPlainly is of any one world.
func oneOkPlainly(o impl.OneWorld) bool {
	m := o.Map
	if m.Cells < 2 || m.Cells > 4 || m.Width < 2 || m.Width > 8 || len(o.Ground) != m.Cells || len(o.Air) != m.Cells {
		return false
	}
	for cell := range m.Cells {
		if o.Ground[cell] < 0 || o.Ground[cell] > 900 || len(o.Air[cell]) != 2 {
			return false
		}
		for side := range 2 {
			if o.Air[cell][side] < 0 || o.Air[cell][side] > 100000 {
				return false
			}
		}
	}
	for i, one := range o.Walkers {
		w := one.Walker
		if w.Id < 1 || w.Id > 9 || w.At < 0 || w.At >= m.Cells*m.Width || w.Coins < 0 || w.Coins > 99 ||
			w.Seq < 0 || w.Seq > 900 || w.Last < 0 || w.Last > 9 {
			return false
		}
		if i > 0 && o.Walkers[i-1].Walker.Id >= w.Id {
			return false
		}
	}
	return true
}

// onePlace is where the walker of a number stands; -1, if there is none.
func onePlace(o impl.OneWorld, id int) int {
	return slices.IndexFunc(o.Walkers, func(w impl.OneWalker) bool { return w.Walker.Id == id })
}

// oneDoPlainly and oneCodePlainly are of a one world and an order that are ok; oneCodePlainly of a fresh order of who is there.
func oneDoPlainly(o impl.OneWorld, r impl.OrdOrder) (impl.OneWorld, int) {
	o = cloneOne(o)
	i := onePlace(o, r.Who)
	if i < 0 || !o.Walkers[i].Here {
		return o, 9
	}
	w := &o.Walkers[i].Walker
	if r.Seq < w.Seq {
		return o, 8
	}
	if r.Seq == w.Seq {
		return o, w.Last
	}
	code := oneCodePlainly(o, r)
	w.Seq, w.Last = r.Seq, code
	if code != 1 {
		return o, code
	}
	cell := w.At / o.Map.Width
	switch r.Kind {
	case 1:
		w.At += 2*r.To - 1
		o.Walkers[i].Here = w.At/o.Map.Width == cell
	case 2:
		w.Coins -= r.N
		o.Walkers[onePlace(o, r.To)].Walker.Coins += r.N
	case 3:
		w.Coins -= r.N
		o.Ground[cell] += r.N
	case 4:
		w.Coins += r.N
		o.Ground[cell] -= r.N
	case 5:
		w.Coins -= r.N
		o.Air[cell+2*r.To-1][1-r.To] += r.N
	}
	return o, 1
}

func oneCodePlainly(o impl.OneWorld, r impl.OrdOrder) int {
	m := o.Map
	w := o.Walkers[onePlace(o, r.Who)].Walker
	cell, to := w.At/m.Width, w.At+2*r.To-1
	none := to < 0 || to >= m.Cells*m.Width
	crosses := !none && to/m.Width != cell
	other := onePlace(o, r.To)
	far := other < 0 || !o.Walkers[other].Here || o.Walkers[other].Walker.At/m.Width != cell
	switch {
	case r.Kind == 1 && none:
		return 2
	case r.Kind == 2 && far:
		return 4
	case r.Kind == 5 && !crosses:
		return 7
	case (r.Kind == 2 || r.Kind == 3 || r.Kind == 5) && w.Coins < r.N:
		return 3
	case r.Kind == 4 && o.Ground[cell] < r.N:
		return 6
	case r.Kind == 2 && o.Walkers[other].Walker.Coins+r.N > 99,
		r.Kind == 3 && o.Ground[cell]+r.N > 900,
		r.Kind == 4 && w.Coins+r.N > 99,
		r.Kind == 5 && o.Air[to/m.Width][1-r.To]+r.N > 100000:
		return 5
	}
	return 1
}

// oneLandPlainly, oneDownPlainly and oneCoinsPlainly are of a one world that is ok.
func oneLandPlainly(o impl.OneWorld, id int) impl.OneWorld {
	o = cloneOne(o)
	if i := onePlace(o, id); i >= 0 {
		o.Walkers[i].Here = true
	}
	return o
}

func oneDownPlainly(o impl.OneWorld, cell, side, n int) impl.OneWorld {
	o = cloneOne(o)
	if cell < 0 || cell >= o.Map.Cells || side != 0 && side != 1 {
		return o
	}
	if n < 1 || n > o.Air[cell][side] || n > 900-o.Ground[cell] {
		return o
	}
	o.Air[cell][side] -= n
	o.Ground[cell] += n
	return o
}

func oneCoinsPlainly(o impl.OneWorld) int {
	sum := 0
	for _, w := range o.Walkers {
		sum += w.Walker.Coins
	}
	for _, n := range append(slices.Concat(o.Air...), o.Ground...) {
		sum += n
	}
	return sum
}

// sameOne holds one worlds against each other; the empty list and the nil list are the same.
func sameOne(a, b impl.OneWorld) bool {
	return a.Map == b.Map && slices.Equal(a.Walkers, b.Walkers) && slices.Equal(a.Ground, b.Ground) &&
		slices.EqualFunc(a.Air, b.Air, slices.Equal[[]int])
}

// onesApart is both of two one worlds that are not the same.
func onesApart(got, want impl.OneWorld) string {
	return fmt.Sprintf("\n%+v, not\n%+v", got, want)
}

// isNoOne is whether a one world is the zero value, all lists empty.
func isNoOne(o impl.OneWorld) bool {
	return sameOne(o, impl.OneWorld{})
}

// cloneOne is the same one world in new memory.
func cloneOne(o impl.OneWorld) impl.OneWorld {
	own := impl.OneWorld{Map: o.Map, Walkers: slices.Clone(o.Walkers), Ground: slices.Clone(o.Ground)}
	for _, air := range o.Air {
		own.Air = append(own.Air, slices.Clone(air))
	}
	return own
}
