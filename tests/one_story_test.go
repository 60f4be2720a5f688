package tests

import (
	"testing"

	"loop.example/landmarch/impl"
)

// askOneIs asks what the world is as one world: its walkers, the ground of each cell, and each cell's air from the left and from the right.
func (c *chronicle) askOneIs(t *testing.T, ground []int, air [][]int, walkers ...impl.OneWalker) {
	t.Helper()
	want := impl.OneWorld{Map: c.w.Map, Walkers: walkers, Ground: ground, Air: air}
	if got := askOneOf(t, c.w); !sameOne(got, want) {
		t.Errorf("OneOf is%s", onesApart(got, want))
	}
}

func walkerThere(w impl.WlkWalker) impl.OneWalker { return impl.OneWalker{Walker: w, Here: true} }
func walkerOnWay(w impl.WlkWalker) impl.OneWalker { return impl.OneWalker{Walker: w} }

// The document's example, told by what it is as one world.
func TestP1TheDocumentsExample(t *testing.T) {
	throw := impl.OrdOrder{Who: 1, Kind: impl.OrdThrow, To: impl.PlcRight, N: 4}
	step := impl.OrdOrder{Who: 1, Kind: impl.OrdStep, To: impl.PlcRight}
	first, second := impl.WlkWalker{Id: 1, At: 2, Coins: 9}, impl.WlkWalker{Id: 2, At: 3}
	c := story(t, impl.PlcMap{Cells: 3, Width: 3}, []impl.WlkWalker{first, second}, 2, grants(0, 0), grants(1, 1), brings(0), brings(0), asks(throw), says(1), doubles(0))
	noughts := [][]int{{0, 0}, {0, 0}, {0, 0}}
	c.askOneIs(t, []int{0, 0, 0}, noughts, walkerThere(first), walkerThere(second))
	flying := [][]int{{0, 0}, {4, 0}, {0, 0}}
	thrower := impl.WlkWalker{Id: 1, At: 2, Coins: 5, Seq: 1, Last: 1}
	for range 4 {
		c.goOn(t, brings(0))
		c.askOneIs(t, []int{0, 0, 0}, flying, walkerThere(thrower), walkerThere(second))
	}
	c.goOn(t, asks(step), says(1))
	c.askOneIs(t, []int{0, 0, 0}, flying, walkerThere(thrower), walkerThere(second))
	goer := impl.WlkWalker{Id: 1, At: 3, Coins: 5, Seq: 2, Last: 1}
	for _, e := range []impl.WldEvent{brings(0), ticks(0, 0), loses(1), falls(0), grants(0, 1), brings(0), brings(0), brings(0), ticks(1, 0)} {
		c.goOn(t, e)
		c.askOneIs(t, []int{0, 0, 0}, flying, walkerOnWay(goer), walkerThere(second))
	}
	c.goOn(t, brings(0))
	c.askOneIs(t, []int{0, 4, 0}, noughts, walkerOnWay(goer), walkerThere(second))
	for _, e := range []impl.WldEvent{brings(0), brings(0), brings(0), ticks(1, 0), ticks(1, 1), falls(1), falls(0)} {
		c.goOn(t, e)
		c.askOneIs(t, []int{0, 4, 0}, noughts, walkerThere(goer), walkerThere(second))
	}
}

// The same to the left, out of the last cell, and to the right into it: both borders of the cell in the middle, both sides of its air.
func TestP1P2P3ToBothSides(t *testing.T) {
	m := impl.PlcMap{Cells: 3, Width: 2}
	left, right := impl.WlkWalker{Id: 3, At: 4, Coins: 8}, impl.WlkWalker{Id: 7, At: 1, Coins: 6}
	c := story(t, m, []impl.WlkWalker{left, right}, 1, grants(0, 0), grants(1, 0), grants(2, 0), brings(0), brings(0), brings(0))
	// The order is said in cell after cell, until it is told.
	do := func(who, kind, to, n int) {
		t.Helper()
		c.goOn(t, asks(impl.OrdOrder{Who: who, Kind: kind, To: to, N: n}))
		for range m.Cells {
			if c.w.Book.Rows[rowOf(c.w.Book, who)].Busy {
				c.goOn(t, says(who), brings(0), brings(0))
			}
		}
	}
	do(3, impl.OrdThrow, impl.PlcLeft, 2)
	do(7, impl.OrdThrow, impl.PlcRight, 5)
	left.Coins, left.Seq, left.Last = 6, 1, 1
	right.Coins, right.Seq, right.Last = 1, 1, 1
	c.askOneIs(t, []int{0, 0, 0}, [][]int{{0, 0}, {5, 2}, {0, 0}}, walkerThere(left), walkerThere(right))
	do(3, impl.OrdStep, impl.PlcLeft, 0)
	do(7, impl.OrdStep, impl.PlcRight, 0)
	left.At, left.Seq = 3, 2
	right.At, right.Seq = 2, 2
	c.askOneIs(t, []int{0, 0, 0}, [][]int{{0, 0}, {5, 2}, {0, 0}}, walkerOnWay(left), walkerOnWay(right))
	// From the left the coins come, from the right all; then the walker from the left.
	c.goOn(t, ticks(0, 0), loses(1), brings(0), loses(0))
	c.askOneIs(t, []int{0, 5, 0}, [][]int{{0, 0}, {0, 2}, {0, 0}}, walkerOnWay(left), walkerOnWay(right))
	c.goOn(t, ticks(0, 2), brings(0), brings(0))
	c.askOneIs(t, []int{0, 7, 0}, [][]int{{0, 0}, {0, 0}, {0, 0}}, walkerThere(left), walkerOnWay(right))
	// Neither the first cell nor the last one knows of it; both say all once more, and nothing comes twice.
	c.goOn(t, loses(0), loses(0), ticks(0, 2), brings(0), brings(0), loses(0), loses(0))
	c.askOneIs(t, []int{0, 7, 0}, [][]int{{0, 0}, {0, 0}, {0, 0}}, walkerThere(left), walkerOnWay(right))
	c.goOn(t, ticks(0, 0), brings(0), brings(0))
	c.askOneIs(t, []int{0, 7, 0}, [][]int{{0, 0}, {0, 0}, {0, 0}}, walkerThere(left), walkerThere(right))
	// And on: out of the cell in the middle, past each other, with what lay on its ground.
	c.goOn(t, brings(0), brings(0))
	do(3, impl.OrdPick, 0, 7)
	do(3, impl.OrdGive, 7, 9)
	do(7, impl.OrdThrow, impl.PlcLeft, 9)
	do(3, impl.OrdThrow, impl.PlcRight, 4)
	left.Coins, left.Seq = 0, 5
	right.Coins, right.Seq = 1, 3
	c.askOneIs(t, []int{0, 0, 0}, [][]int{{0, 9}, {0, 0}, {4, 0}}, walkerThere(left), walkerThere(right))
}

// A full ground takes no coins in: they stay in the air, and so does all that comes behind them stay on its way. (From WldNew on there are not so many coins.)
func TestP1CoinsStayInTheAirOverAFullGround(t *testing.T) {
	w := turnedWorld(impl.WldNew(impl.PlcMap{Cells: 2, Width: 2}, []impl.WlkWalker{{Id: 1, At: 1, Coins: 9}}, 1), func(w *impl.WldWorld) {
		w.Stores[1].Base.Ground = 897
	})
	w = impl.WldRun(w, []impl.WldEvent{grants(0, 0), brings(0), grants(1, 0), brings(0)})
	for _, o := range []impl.OrdOrder{throwOf(1, impl.PlcRight, 4), stepOf(1, impl.PlcRight)} {
		w = impl.WldRun(w, []impl.WldEvent{asks(o), says(1), brings(0), brings(0)})
	}
	w = impl.WldCalm(w, 5)
	one := askOneOf(t, w)
	want := impl.OneWorld{
		Map:     w.Map,
		Walkers: []impl.OneWalker{walkerOnWay(impl.WlkWalker{Id: 1, At: 2, Coins: 5, Seq: 2, Last: 1})},
		Ground:  []int{0, 897},
		Air:     [][]int{{0, 0}, {4, 0}},
	}
	if !sameOne(one, want) {
		t.Errorf("OneOf is%s", onesApart(one, want))
	}
	if down := impl.OneDown(one, 1, impl.PlcLeft, 4); !sameOne(down, one) {
		t.Errorf("behind OneDown there is %+v", down)
	}
}

// A world at rest stays as it is, round for round, whatever was in it.
func TestP9RestingWorlds(t *testing.T) {
	for _, w := range []impl.WldWorld{
		restingWorld(),
		impl.WldCalm(impl.WldNew(messagesMap, nil, 3), 20),
		impl.WldCalm(impl.WldNew(impl.PlcMap{Cells: 4, Width: 8}, nineWalkers(32), 1), 20),
	} {
		for range 3 {
			askStaysAtRest(t, w)
			w = impl.WldCalm(w, 1)
		}
	}
}

// A walker that goes to and fro, with orders asked for in the calm itself: at rest again behind each of them.
func TestP9BehindEachCalm(t *testing.T) {
	w := impl.WldNew(impl.PlcMap{Cells: 2, Width: 2}, []impl.WlkWalker{{Id: 4, At: 1, Coins: 20}}, 2)
	for round := range 4 {
		w = impl.WldRun(w, []impl.WldEvent{asks(throwOf(4, 1-round%2, 2)), says(4), falls(round % 2)})
		w = impl.WldCalm(w, 20)
		askStaysAtRest(t, w)
		w = impl.WldCalm(impl.WldStep(w, asks(stepOf(4, 1-round%2))), 20)
		askStaysAtRest(t, w)
		one := impl.OneOf(w)
		if one.Walkers[0] != walkerThere(impl.WlkWalker{Id: 4, At: 2 - round%2, Coins: 18 - 2*round, Seq: 2*round + 2, Last: 1}) || impl.OneCoins(one) != 20 {
			t.Errorf("behind the round %d there is %+v", round, one)
		}
	}
}
