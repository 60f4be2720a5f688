package tests

import (
	"math/rand"
	"slices"
	"strconv"
	"testing"

	"loop.example/landmarch/impl"
)

// askNoOne asks that a one world is not ok, and that nothing comes of it.
func askNoOne(t *testing.T, why string, o impl.OneWorld) {
	t.Helper()
	if impl.OneOk(o) || oneOkPlainly(o) {
		t.Errorf("%s: OneOk(%+v) is %v, by the words %v", why, o, impl.OneOk(o), oneOkPlainly(o))
	}
	if got := impl.OneCoins(o); got != 0 {
		t.Errorf("%s: OneCoins(%+v) is %d", why, o, got)
	}
	for _, r := range []impl.OrdOrder{
		{Who: 1, Seq: 900, Kind: impl.OrdRest}, {Who: 2, Seq: 900, Kind: impl.OrdStep, To: 1}, {Who: 3, Seq: 900, Kind: impl.OrdThrow, To: 1, N: 1},
		{Who: 1, Seq: 900, Kind: impl.OrdGive, To: 2, N: 1}, {Who: 6, Seq: 1, Kind: impl.OrdRest}, {Who: 8, Seq: 1, Kind: impl.OrdRest}, {},
	} {
		if got, code := impl.OneDo(o, r); !isNoOne(got) || code != 0 {
			t.Errorf("%s: OneDo(%+v, %v) is %+v, %d", why, o, r, got, code)
		}
	}
	for id := -1; id <= 10; id++ {
		if got := impl.OneLand(o, id); !isNoOne(got) {
			t.Errorf("%s: OneLand(%+v, %d) is %+v", why, o, id, got)
		}
	}
	for cell := -1; cell <= 4; cell++ {
		for side := -1; side <= 2; side++ {
			for n := -1; n <= 2; n++ {
				if got := impl.OneDown(o, cell, side, n); !isNoOne(got) {
					t.Errorf("%s: OneDown(%+v, %d, %d, %d) is %+v", why, o, cell, side, n, got)
				}
			}
		}
	}
}

// wrongOnes is, by what is wrong, one worlds that are not ok, for each clause of the chapter by itself; the one that is given is ok, with three cells and some walkers.
func wrongOnes(o impl.OneWorld) map[string]impl.OneWorld {
	wrong := map[string]impl.OneWorld{"nothing": {}, "a map alone": {Map: o.Map}}
	add := func(why string, turn oneTurn) { wrong[why] = turnedOne(o, turn) }
	add("no Ground", func(o *impl.OneWorld) { o.Ground = nil })
	add("one of Ground too few", func(o *impl.OneWorld) { o.Ground = o.Ground[:2] })
	add("one of Ground too many", func(o *impl.OneWorld) { o.Ground = append(o.Ground, 0) })
	add("no Air", func(o *impl.OneWorld) { o.Air = nil })
	add("Air for one cell too few", func(o *impl.OneWorld) { o.Air = o.Air[:2] })
	add("Air for one cell too many", func(o *impl.OneWorld) { o.Air = append(o.Air, []int{0, 0}) })
	add("Air for no cells, all in one", func(o *impl.OneWorld) { o.Air = [][]int{slices.Concat(o.Air...)} })
	for cell := range o.Map.Cells {
		name := " of the cell " + strconv.Itoa(cell)
		for _, n := range append([]int{-1, 901}, farNumbers...) {
			add("Ground "+strconv.Itoa(n)+name, oneGround(cell, n))
		}
		add("no Air"+name, func(o *impl.OneWorld) { o.Air[cell] = nil })
		add("one of Air"+name, func(o *impl.OneWorld) { o.Air[cell] = o.Air[cell][:1] })
		add("three of Air"+name, func(o *impl.OneWorld) { o.Air[cell] = append(o.Air[cell], 0) })
		for side := range 2 {
			for _, n := range append([]int{-1, 100001}, farNumbers...) {
				add("Air "+strconv.Itoa(n)+name+" from the side "+strconv.Itoa(side), oneAir(cell, side, n))
			}
		}
	}
	addWrongOneWalkers(wrong, o)
	for why, m := range map[string]impl.PlcMap{
		"fewer cells": {Cells: o.Map.Cells - 1, Width: o.Map.Width}, "more cells": {Cells: o.Map.Cells + 1, Width: o.Map.Width},
		"a map that is too wide": {Cells: o.Map.Cells, Width: 9}, "a map that is too narrow": {Cells: o.Map.Cells, Width: 1},
		"a map that ends ahead of a walker": {Cells: o.Map.Cells, Width: o.Map.Width - 1},
	} {
		add(why, func(o *impl.OneWorld) { o.Map = m })
	}
	return wrong
}

// addWrongOneWalkers adds the one world with walkers that are not ok, at each place of the list, there and on their way.
func addWrongOneWalkers(wrong map[string]impl.OneWorld, o impl.OneWorld) {
	add := func(why string, turn oneTurn) { wrong["walkers: "+why] = turnedOne(o, turn) }
	for i := range o.Walkers {
		for _, here := range []bool{true, false} {
			name := " at the place " + strconv.Itoa(i) + ", there: " + strconv.FormatBool(here)
			set := func(why string, turn func(*impl.WlkWalker)) {
				add(why+name, func(o *impl.OneWorld) {
					o.Walkers[i].Here = here
					turn(&o.Walkers[i].Walker)
				})
			}
			for _, bound := range walkerBounds {
				for _, n := range append([]int{bound.low - 1, bound.high + 1}, farNumbers...) {
					set(bound.name+" "+strconv.Itoa(n), func(w *impl.WlkWalker) { bound.set(w, n) })
				}
			}
			for _, at := range append([]int{-1, o.Map.Cells * o.Map.Width}, farNumbers...) {
				set("At "+strconv.Itoa(at), func(w *impl.WlkWalker) { w.At = at })
			}
			set("nothing", func(w *impl.WlkWalker) { *w = impl.WlkWalker{} })
			add("it comes twice"+name, func(o *impl.OneWorld) {
				other := o.Walkers[i]
				other.Here = here
				o.Walkers = slices.Insert(o.Walkers, i+1, other)
			})
			if i > 0 {
				set("the number of the one ahead of it", func(w *impl.WlkWalker) { w.Id = o.Walkers[i-1].Walker.Id })
				add("it changes places with the one ahead of it"+name, func(o *impl.OneWorld) {
					o.Walkers[i], o.Walkers[i-1] = o.Walkers[i-1], o.Walkers[i]
				})
			}
		}
	}
	add("the wrong way round", func(o *impl.OneWorld) { slices.Reverse(o.Walkers) })
}

func TestP57P60P61OneWorldsThatAreNotOk(t *testing.T) {
	if !askOne(t, codesOne()) {
		t.Fatal("the test's own one world is not ok")
	}
	for why, o := range wrongOnes(codesOne()) {
		askNoOne(t, why, o)
	}
	// In which nothing would turn, if it were ok.
	bare := turnedOne(bareOne(codesMap), func(o *impl.OneWorld) {
		o.Walkers = []impl.OneWalker{{Walker: impl.WlkWalker{Id: 4, At: 11}}, {Walker: impl.WlkWalker{Id: 5, At: 3}}}
	})
	for why, o := range wrongOnes(bare) {
		askNoOne(t, why, o)
	}
}

func TestP57P60P61OneWorldsOnMapsThatAreNotOk(t *testing.T) {
	for _, m := range badMaps() {
		askNoOne(t, "the map", turnedOne(codesOne(), func(o *impl.OneWorld) { o.Map = m }))
		askNoOne(t, "the map alone", impl.OneWorld{Map: m})
		// As many as the map says, if they are not too many to be there.
		if m.Cells >= 0 && m.Cells < 10 {
			askNoOne(t, "the map, and as many as it says", bareOne(m))
		}
	}
}

// The ends of the bounds, each by itself; what a map and its cells do not ask for is ok.
func TestP2OneWorldsAtTheEndsOfTheirBounds(t *testing.T) {
	for _, m := range okMaps() {
		bare := bareOne(m)
		if !askOne(t, bare) {
			t.Errorf("%+v is not ok", bare)
		}
		for cell := range m.Cells {
			for n, want := range map[int]bool{-1: false, 0: true, 1: true, 899: true, 900: true, 901: false} {
				if got := askOne(t, turnedOne(bare, oneGround(cell, n))); got != want {
					t.Errorf("on %v with %d on the ground of the cell %d OneOk is %v", m, n, cell, got)
				}
			}
			for side := range 2 {
				for n, want := range map[int]bool{-1: false, 0: true, 1: true, 901: true, 99999: true, 100000: true, 100001: false} {
					if got := askOne(t, turnedOne(bare, oneAir(cell, side, n))); got != want {
						t.Errorf("on %v with %d in the air of the cell %d from the side %d OneOk is %v", m, n, cell, side, got)
					}
				}
			}
		}
		for _, here := range []bool{true, false} {
			for _, at := range numbersAround(0, m.Cells*m.Width-1) {
				askOne(t, turnedOne(bare, func(o *impl.OneWorld) {
					o.Walkers = []impl.OneWalker{{Walker: impl.WlkWalker{Id: 1, At: at}, Here: here}}
				}))
			}
			for _, bound := range walkerBounds {
				for _, n := range numbersAround(bound.low, bound.high) {
					w := impl.WlkWalker{Id: 1, At: m.Width}
					bound.set(&w, n)
					askOne(t, turnedOne(bare, func(o *impl.OneWorld) { o.Walkers = []impl.OneWalker{{Walker: w, Here: here}} }))
				}
			}
		}
	}
}

// Any one worlds: turned once or twice, so that they may be ok or not.
func TestP2AnyOneWorlds(t *testing.T) {
	count := map[bool]int{}
	eachOne(t, 441, 300, func(r *rand.Rand, o impl.OneWorld) {
		cell, side := r.Intn(o.Map.Cells), r.Intn(2)
		turns := []oneTurn{
			oneGround(cell, oneOf(r, -1, 0, 900, 901)),
			oneAir(cell, side, oneOf(r, -1, 0, 901, 100000, 100001)),
			func(o *impl.OneWorld) { o.Ground = append(o.Ground, 0)[:o.Map.Cells+r.Intn(2)] },
			func(o *impl.OneWorld) { o.Air[cell] = append(o.Air[cell], 0)[:2+r.Intn(2)] },
			func(o *impl.OneWorld) { o.Map.Cells += r.Intn(3) - 1 },
			func(o *impl.OneWorld) { o.Map.Width += r.Intn(3) - 1 },
			func(o *impl.OneWorld) {
				if len(o.Walkers) > 0 {
					o.Walkers[r.Intn(len(o.Walkers))].Walker.Id = r.Intn(11)
				}
			},
			func(o *impl.OneWorld) {
				if len(o.Walkers) > 0 {
					o.Walkers[r.Intn(len(o.Walkers))].Walker.At = r.Intn(o.Map.Cells*o.Map.Width+2) - 1
				}
			},
			func(o *impl.OneWorld) {
				o.Walkers = append(o.Walkers, impl.OneWalker{Walker: impl.WlkWalker{Id: oneOf(r, 8, 9)}})
			},
		}
		for _, turn := range turns {
			count[askOne(t, turnedOne(o, turn))]++
			count[askOne(t, turnedOne(o, turn, turns[r.Intn(2)]))]++
		}
	})
	if count[true] < 1000 || count[false] < 1000 {
		t.Errorf("so many were ok, so many not: %v", count)
	}
}

func TestP57P58OrdersThatAreNotOkInTheOneWorld(t *testing.T) {
	all := codesOne()
	for id := 7; id <= 9; id++ {
		all.Walkers = append(all.Walkers, impl.OneWalker{Walker: impl.WlkWalker{Id: id, At: 4, Coins: 50}, Here: id > 7})
	}
	if !askOne(t, all) {
		t.Fatal("the test's own one world is not ok")
	}
	for _, o := range []impl.OneWorld{all, codesOne(), bareOne(codesMap)} {
		for _, r := range wrongOrders() {
			if got, code := impl.OneDo(o, r); !isNoOne(got) || code != 0 {
				t.Fatalf("OneDo(%+v, %+v) is %+v, %d", o, r, got, code)
			}
		}
		for _, n := range farNumbers {
			for _, r := range []impl.OrdOrder{
				{Who: n, Seq: 1, Kind: 6}, {Who: 1, Seq: n, Kind: 6}, {Who: 1, Seq: 1, Kind: n}, {Who: 1, Seq: 1, Kind: 1, To: n}, {Who: 1, Seq: 1, Kind: 3, N: n},
				{Who: 1, Seq: 1, Kind: 5, To: n, N: 1}, {Who: 1, Seq: 1, Kind: 5, To: 0, N: n}, {Who: 1, Seq: 1, Kind: 2, To: n, N: 1},
			} {
				if got, code := impl.OneDo(o, r); !isNoOne(got) || code != 0 {
					t.Fatalf("OneDo(%+v, %+v) is %+v, %d", o, r, got, code)
				}
			}
		}
	}
}

// Worlds that are not ok, each by one clause; near to them is one of which there is a one world.
func TestP2NoOneWorldOfAWorldThatIsNotOk(t *testing.T) {
	for why, turn := range notQuiteResting() {
		if got := impl.OneOf(turnedWorld(restingWorld(), turn)); !isNoOne(got) {
			t.Errorf("%s: OneOf is %+v", why, got)
		}
	}
	for _, w := range notOkCases() {
		if got := impl.OneOf(w); !isNoOne(got) {
			t.Errorf("OneOf(%+v) is %+v", w, got)
		}
	}
	if got := askOneOf(t, restingWorld()); isNoOne(got) || !impl.OneOk(got) {
		t.Errorf("of a world at rest OneOf is %+v", got)
	}
	for why, w := range calmCases() {
		if isNoOne(askOneOf(t, w)) {
			t.Errorf("%s: there is no one world", why)
		}
	}
}
