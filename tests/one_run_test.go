package tests

import (
	"math/rand"
	"slices"
	"testing"

	"loop.example/landmarch/impl"
)

// askOne asks for P1, P2 and P3 of the last step.
func (c *chronicle) askOne(t *testing.T, before impl.WldWorld, e impl.WldEvent) {
	t.Helper()
	was := c.one
	c.one = impl.OneOf(c.w)
	var states []impl.CllCell
	for _, list := range c.states {
		states = append(states, list[len(list)-1])
	}
	if want := oneOfStatesPlainly(c.w.Map, states); !sameOne(c.one, want) {
		t.Fatalf("behind %+v OneOf is not so: %s", e, onesApart(c.one, want))
	}
	want, written := was, 0
	for cell, s := range c.w.Stores {
		for _, r := range s.Recs[len(before.Stores[cell].Recs):] {
			want = c.oneBehind(t, was, cell, r)
			written++
		}
	}
	if written > 1 || !sameOne(c.one, want) {
		t.Fatalf("behind %+v, which writes %d records, OneOf is%s", e, written, onesApart(c.one, want))
	}
	if written == 0 {
		c.tally["nothing that was written"]++
	}
	askSameWalkersAndCoins(t, c.first, c.one)
	c.countOnWay(states)
}

// oneBehind is what the one world is behind a record of a cell, by P1; and it asks for the code of an order, and whether what comes in was under way.
func (c *chronicle) oneBehind(t *testing.T, was impl.OneWorld, cell int, r impl.LogRec) impl.OneWorld {
	t.Helper()
	side := []string{"left", "right"}[r.Side]
	switch {
	case r.Kind == impl.LogAck:
		c.tally["the one world stays behind a record"]++
		return was
	case r.Kind == impl.LogDo:
		want, code := impl.OneDo(was, r.Order)
		states := c.states[cell]
		if _, came := impl.CllDo(c.w.Map, states[len(states)-2], r.Order); code != came || code != c.came[orderKey{r.Order.Who, r.Order.Seq}] {
			t.Fatalf("the order %+v has in the one world the code %d, in its cell %d", r.Order, code, came)
		}
		c.countOrder(was, want, r.Order, code)
		return want
	case r.Parcel.Kind == impl.PclWalker:
		if i := onePlace(was, r.Parcel.Walker.Id); i < 0 || was.Walkers[i] != (impl.OneWalker{Walker: r.Parcel.Walker}) {
			t.Fatalf("%+v comes in, and was not on its way: %+v", r, was)
		}
		c.tally["lands from the "+side]++
		return impl.OneLand(was, r.Parcel.Walker.Id)
	}
	want := impl.OneDown(was, cell, r.Side, r.Parcel.Coins)
	if sameOne(was, want) {
		t.Fatalf("%+v comes in, and was not in the air: %+v", r, was)
	}
	c.tally["falls from the "+side]++
	return want
}

// countOrder counts orders by which something is under way.
func (c *chronicle) countOrder(was, is impl.OneWorld, r impl.OrdOrder, code int) {
	side := []string{"left", "right"}[r.To%2]
	i := onePlace(was, r.Who)
	if r.Kind == impl.OrdStep && !is.Walkers[i].Here {
		c.tally["a walker steps to the "+side]++
	}
	if r.Kind == impl.OrdThrow && code == impl.CodeDone {
		c.tally["coins fly to the "+side]++
	}
}

// askSameWalkersAndCoins asks that a one world is ok, with the walkers' numbers and as many coins as one in the beginning.
func askSameWalkersAndCoins(t *testing.T, first, o impl.OneWorld) {
	t.Helper()
	if !impl.OneOk(o) || !oneOkPlainly(o) || o.Map != first.Map || len(o.Walkers) != len(first.Walkers) {
		t.Fatalf("the one world is not ok, or has other walkers: %+v, first %+v", o, first)
	}
	for i, w := range o.Walkers {
		if w.Walker.Id != first.Walkers[i].Walker.Id {
			t.Fatalf("the one world has other walkers: %+v, first %+v", o, first)
		}
	}
	if got := impl.OneCoins(o); got != impl.OneCoins(first) || got != oneCoinsPlainly(o) {
		t.Fatalf("there are %d coins, first %d: %+v", got, impl.OneCoins(first), o)
	}
}

// countOnWay counts what is under way, and what has come without being let go of.
func (c *chronicle) countOnWay(states []impl.CllCell) {
	for _, w := range c.one.Walkers {
		if !w.Here {
			c.tally["on its way behind a step"]++
		}
	}
	for cell, air := range c.one.Air {
		if air[0]+air[1] > 0 {
			c.tally["in the air behind a step"]++
		}
		for side, parcels := range states[cell].Outs {
			if len(parcels) > 0 && parcels[0].N < states[besidePlainly(c.w.Map, cell, side)].Ins[1-side] {
				c.tally["came in and is not let go of"]++
			}
		}
	}
}

// Worlds where parcels pile up, and then all is brought in any order, lost and doubled: each step by what the one world does.
func TestP1P2P3WhereParcelsPileUp(t *testing.T) {
	tally := map[string]int{}
	r := rand.New(rand.NewSource(431))
	for _, m := range calmMaps {
		for servers := 1; servers <= 3; servers++ {
			for side := range 2 {
				var list []impl.WlkWalker
				for id := range oneOf(r, 1, 3, 9) {
					list = append(list, impl.WlkWalker{Id: id + 1, At: m.Width*(1+r.Intn(m.Cells-1)) - 1 + side, Coins: 60 + id})
				}
				c := chronicleOf(t, m, list, servers, tally)
				for range 120 {
					c.step(t, pilingEvent(r, c.w, 1-side))
				}
				for range 200 {
					c.step(t, someEvent(r, c.w, oneOf(r, 5, 30)))
				}
				c.askCounts(t)
			}
		}
	}
	askTally(t, tally, 20, "coins fly to the left", "coins fly to the right", "falls from the left", "falls from the right",
		"on its way behind a step", "in the air behind a step", "came in and is not let go of")
}

// A calm is many steps: behind it the walkers are the same, and as many coins; and nothing is under way.
func TestP2P3CalmsAsOneWorld(t *testing.T) {
	eachRun(t, 432, []int{0, 40, 120, 200}, func(first impl.WldWorld, _ []impl.WldEvent, w impl.WldWorld) {
		was := askOneOf(t, first)
		for _, rounds := range []int{0, 1, 2, 20} {
			one := askOneOf(t, impl.WldCalm(w, rounds))
			askSameWalkersAndCoins(t, was, one)
			if rounds < 20 {
				continue
			}
			for _, walker := range one.Walkers {
				if !walker.Here {
					t.Fatalf("behind a calm of %+v the walker is on its way: %+v", w, one)
				}
			}
			for _, air := range one.Air {
				if air[0]+air[1] > 0 {
					t.Fatalf("behind a calm of %+v coins are in the air: %+v", w, one)
				}
			}
		}
	})
}

// askStaysAtRest asks for P9 of a world behind its calm.
func askStaysAtRest(t *testing.T, calm impl.WldWorld) {
	t.Helper()
	more := impl.WldCalm(calm, 1)
	if !sameStores(more.Stores, calm.Stores) || !sameBook(more.Book, calm.Book) || !slices.Equal(more.Notes, calm.Notes) {
		t.Fatalf("behind one more round it is not as it was: %s", worldsApart(more, calm))
	}
	if one, was := impl.OneOf(more), impl.OneOf(calm); !sameOne(one, was) || !sameOne(one, oneOfPlainly(calm)) {
		t.Fatalf("behind one more round the one world is%s", onesApart(one, was))
	}
	if !impl.WldRest(more) {
		t.Fatalf("behind one more round there is no rest: %+v", more)
	}
}
