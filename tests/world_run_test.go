package tests

import (
	"math/rand"
	"slices"
	"testing"

	"loop.example/landmarch/impl"
)

// orderKey is which order of which walker.
type orderKey struct {
	who int
	seq int
}

// chronicle is a world from WldNew on, with all that was so on the way: what it is as one world, now and in the beginning, of each cell its state behind so many records, what came of each order, and how far the notes of each walker go.
type chronicle struct {
	w      impl.WldWorld
	one    impl.OneWorld
	first  impl.OneWorld
	states [][]impl.CllCell
	came   map[orderKey]int
	noted  map[int]int
	tally  map[string]int
}

// chronicleOf is a world at its beginning.
func chronicleOf(t *testing.T, m impl.PlcMap, list []impl.WlkWalker, servers int, tally map[string]int) *chronicle {
	t.Helper()
	c := &chronicle{w: impl.WldNew(m, list, servers), came: map[orderKey]int{}, noted: map[int]int{}, tally: tally}
	if !sameWorld(c.w, newWorldPlainly(m, list, servers)) {
		t.Fatalf("WldNew(%v, %v, %d) is %+v", m, list, servers, c.w)
	}
	for _, s := range c.w.Stores {
		c.states = append(c.states, []impl.CllCell{s.Base})
	}
	for _, w := range list {
		c.noted[w.Id] = w.Seq
	}
	c.one = askOneOf(t, c.w)
	c.first = c.one
	c.askAll(t)
	return c
}

// step lets a thing happen, and asks for all promises behind it.
func (c *chronicle) step(t *testing.T, e impl.WldEvent) {
	t.Helper()
	before := c.w
	c.w = askStep(t, before, e)
	c.write(t, before, e)
	c.note(t, before)
	c.askOne(t, before, e)
	c.askAll(t)
	c.count(before, e)
}

// write takes down what is written, and asks for P4 of it: no order is done that was.
func (c *chronicle) write(t *testing.T, before impl.WldWorld, e impl.WldEvent) {
	t.Helper()
	for cell, s := range c.w.Stores {
		for _, r := range s.Recs[len(before.Stores[cell].Recs):] {
			states := c.states[cell]
			after, code, fits := applyPlainly(c.w.Map, states[len(states)-1], r)
			if !fits {
				t.Fatalf("behind %+v the record %+v does not fit in the cell %d", e, r, cell)
			}
			c.states[cell] = append(states, after)
			if r.Kind != impl.LogDo {
				continue
			}
			key := orderKey{r.Order.Who, r.Order.Seq}
			if _, done := c.came[key]; done {
				t.Fatalf("behind %+v the order %+v is done twice", e, r.Order)
			}
			c.came[key] = code
		}
	}
}

// note takes down what is noted, and asks for P4 and P15 of it.
func (c *chronicle) note(t *testing.T, before impl.WldWorld) {
	t.Helper()
	for _, n := range c.w.Notes[len(before.Notes):] {
		if code, done := c.came[orderKey{n.Who, n.Seq}]; !done || code != n.Code {
			t.Fatalf("%+v is noted, and what came of it is %d, %v", n, code, done)
		}
		if n.Seq != c.noted[n.Who]+1 {
			t.Fatalf("%+v is noted behind the order %d", n, c.noted[n.Who])
		}
		c.noted[n.Who] = n.Seq
	}
}

// askAll asks for P5 and P6.
func (c *chronicle) askAll(t *testing.T) {
	t.Helper()
	for cell, store := range c.w.Stores {
		holders := 0
		for i, s := range c.w.Servers {
			hold, held := impl.SrvHold(s, cell)
			if !held {
				continue
			}
			if hold.Age > store.Age || hold.Count > len(store.Recs) || !sameCell(hold.State, c.states[cell][hold.Count]) {
				t.Fatalf("the server %d has the hold %+v, and the store is %+v", i, hold, store)
			}
			if hold.Age < store.Age {
				c.tally["a hold of an earlier age"]++
				continue
			}
			holders++
			if holders > 1 || hold.Count != len(store.Recs) {
				t.Fatalf("the server %d has the hold %+v, one of %d, and the store is %+v", i, hold, holders, store)
			}
		}
	}
	for _, s := range c.w.Servers {
		for _, g := range s.Ghosts {
			c.askGhost(t, g)
		}
	}
	for _, x := range c.w.Net {
		if x.Kind == impl.MsgGhost {
			c.askGhost(t, x.Ghost)
		}
	}
}

// askGhost asks for P6 of one ghost.
func (c *chronicle) askGhost(t *testing.T, g impl.GstGhost) {
	t.Helper()
	if !impl.GstOk(c.w.Map, g) || g.Count >= len(c.states[g.From]) {
		t.Fatalf("the ghost %+v is of no time", g)
	}
	w, there := findPlainly(c.states[g.From][g.Count].Walkers, g.Walker.Id)
	if !there || w != g.Walker {
		t.Fatalf("the ghost %+v shows what was %+v, %v", g, w, there)
	}
	c.tally["a ghost"]++
	if g.Count < len(c.w.Stores[g.From].Recs) {
		c.tally["a ghost of what was"]++
	}
}

// askCounts asks for P4 by WldCount, and for P5 by LogFold, which take longer.
func (c *chronicle) askCounts(t *testing.T) {
	t.Helper()
	for key, code := range c.came {
		if got := impl.WldCount(c.w, key.who, key.seq); got != 1 {
			t.Fatalf("the order %+v, with the code %d, is done %d times", key, code, got)
		}
		if got := impl.WldCount(c.w, key.who, key.seq+1); got != worldCountPlainly(c.w, key.who, key.seq+1) {
			t.Fatalf("the order behind %+v is done %d times", key, got)
		}
	}
	for cell, states := range c.states {
		for count, want := range states {
			s := c.w.Stores[cell]
			if got, fitted := impl.LogFold(c.w.Map, s.Base, s.Recs[:count]); fitted != count || !sameCell(got, want) {
				t.Fatalf("LogFold of %d records of the cell %d is %+v, %d, not %+v", count, cell, got, fitted, want)
			}
		}
	}
	for _, n := range c.w.Notes {
		if got := impl.WldCount(c.w, n.Who, n.Seq); got != 1 {
			t.Fatalf("%+v is noted and done %d times", n, got)
		}
	}
	if !worldOkPlainly(c.w) {
		t.Fatalf("%+v is not ok", c.w)
	}
}

// count counts what has happened, so that the runs are seen to come to all of it.
func (c *chronicle) count(before impl.WldWorld, e impl.WldEvent) {
	if sameWorld(before, c.w) {
		c.tally["nothing"]++
		return
	}
	c.tally["Kind "+string(rune('0'+e.Kind))]++
	if e.Kind == impl.WldGrant && before.Table.Ages[e.At] > 0 && before.Table.Servers[e.At] != e.To {
		c.tally["granted to another server"]++
	}
	if len(c.w.Notes) > len(before.Notes) {
		c.tally["noted"]++
	}
	for cell, s := range c.w.Stores {
		if len(s.Recs) == len(before.Stores[cell].Recs) {
			continue
		}
		switch r := s.Recs[len(s.Recs)-1]; {
		case r.Kind == impl.LogIn && r.Parcel.Kind == impl.PclWalker:
			c.tally["a walker comes in"]++
		case r.Kind == impl.LogIn:
			c.tally["coins come in"]++
		case r.Kind == impl.LogAck:
			c.tally["parcels are let go of"]++
		default:
			c.tally["an order is done"]++
		}
	}
	if e.Kind == impl.WldBring {
		c.countBrought(before, before.Net[e.At], e.At)
	}
}

// countBrought counts what came of a message that was brought.
func (c *chronicle) countBrought(before impl.WldWorld, x impl.MsgMsg, at int) {
	if at > 0 {
		c.tally["brought out of its order"]++
	}
	if x.To == impl.MsgGate {
		return
	}
	if !before.Servers[x.To].Up {
		c.tally["brought to who is down"]++
	}
	_, held := impl.SrvHold(before.Servers[x.To], x.Cell)
	_, holds := impl.SrvHold(c.w.Servers[x.To], x.Cell)
	if x.Kind == impl.MsgAsk && held && !holds {
		c.tally["an order for who held the cell"]++
	}
	if x.Kind == impl.MsgGrant && held && before.Stores[x.Cell].Age < c.w.Stores[x.Cell].Age {
		c.tally["a hold in the place of an earlier one"]++
	}
	if x.Kind == impl.MsgGrant && before.Servers[x.To].Up && before.Stores[x.Cell].Age > x.N {
		c.tally["a grant that is too late"]++
	}
}

// someEvent is a thing that may happen next: so often out of 100 trouble, and else one of which mostly something comes.
func someEvent(r *rand.Rand, w impl.WldWorld, trouble int) impl.WldEvent {
	cell, server := r.Intn(w.Map.Cells), r.Intn(len(w.Servers))
	if r.Intn(100) < trouble {
		return someTrouble(r, w)
	}
	who := 1 + r.Intn(9)
	if rows := len(w.Book.Rows); rows > 0 {
		who = w.Book.Rows[r.Intn(rows)].Who
	}
	has := w.Table.Servers[cell]
	switch n := r.Intn(100); {
	case has < 0:
		return grants(cell, server)
	case !w.Servers[server].Up && n < 50:
		return rises(server)
	case n < 15:
		// Who has the cell may not hold it: it has fallen, or its grant is lost.
		hold, _ := impl.SrvHold(w.Servers[has], cell)
		if hold.Age < w.Table.Ages[cell] && !slices.Contains(w.Net, grantOf(has, cell, w.Table.Ages[cell])) {
			return grants(cell, server)
		}
		return ticks(has, cell)
	case n < 60 && len(w.Net) > 0:
		return brings(0)
	case n < 75:
		return someAsk(r, who)
	case n < 90:
		return says(who)
	}
	return ticks(has, cell)
}

// someTrouble is a thing that sets something back.
func someTrouble(r *rand.Rand, w impl.WldWorld) impl.WldEvent {
	cell, server := r.Intn(w.Map.Cells), r.Intn(len(w.Servers))
	at := oneOf(r, len(w.Net)-1, r.Intn(len(w.Net)+1))
	switch n := r.Intn(100); {
	case n < 15:
		return grants(cell, server)
	case n < 55:
		return brings(at)
	case n < 65:
		return loses(at)
	case n < 85:
		return doubles(at)
	case n < 90:
		return ticks(server, cell)
	case n < 95:
		return falls(server)
	}
	return impl.WldEvent{Kind: r.Intn(12), At: r.Intn(14) - 2, What: r.Intn(8), To: r.Intn(12) - 1, N: r.Intn(12) - 1}
}

// someAsk is an order of a walker: half of them lead over an edge, or to one.
func someAsk(r *rand.Rand, who int) impl.WldEvent {
	o := impl.OrdOrder{Who: who, Kind: oneOf(r, 1, 1, 1, 1, 2, 3, 4, 5, 5, 6)}
	switch o.Kind {
	case impl.OrdStep:
		o.To = r.Intn(2)
	case impl.OrdThrow:
		o.To, o.N = r.Intn(2), 1+r.Intn(3)
	case impl.OrdGive:
		o.To, o.N = 1+r.Intn(9), 1+r.Intn(3)
	case impl.OrdDrop, impl.OrdPick:
		o.N = 1 + r.Intn(3)
	}
	return asks(o)
}

// beginnings is walkers with which worlds of a map begin: none, one, two and many.
func beginnings(r *rand.Rand, m impl.PlcMap) [][]impl.WlkWalker {
	places := m.Cells * m.Width
	several := func(ids ...int) []impl.WlkWalker {
		var list []impl.WlkWalker
		for _, id := range ids {
			list = append(list, impl.WlkWalker{Id: id, At: r.Intn(places), Coins: r.Intn(20), Seq: oneOf(r, 0, 0, 5, 890), Last: r.Intn(10)})
		}
		return list
	}
	return [][]impl.WlkWalker{nil, several(4), several(2, 9), several(1, 3, 5, 7), several(1, 2, 3, 4, 5, 6, 7, 8, 9)}
}

func TestP1ToP6P13P14P15LongRuns(t *testing.T) {
	tally := map[string]int{}
	r := rand.New(rand.NewSource(351))
	for _, m := range []impl.PlcMap{{Cells: 2, Width: 2}, {Cells: 3, Width: 2}, {Cells: 4, Width: 3}, {Cells: 3, Width: 8}} {
		for _, list := range beginnings(r, m) {
			for servers := 1; servers <= 3; servers++ {
				for _, trouble := range []int{4, 15, 50} {
					c := chronicleOf(t, m, list, servers, tally)
					for range 400 {
						c.step(t, someEvent(r, c.w, trouble))
					}
					c.askCounts(t)
				}
			}
		}
	}
	for _, name := range []string{
		"Kind 1", "Kind 2", "Kind 3", "Kind 4", "Kind 5", "Kind 6", "Kind 7", "Kind 8", "Kind 9", "nothing",
		"granted to another server", "noted", "a walker comes in", "coins come in", "parcels are let go of", "an order is done",
		"brought out of its order", "brought to who is down", "an order for who held the cell", "a hold in the place of an earlier one",
		"a grant that is too late", "a hold of an earlier age", "a ghost", "a ghost of what was",
		"nothing that was written", "the one world stays behind a record", "a walker steps to the left", "a walker steps to the right",
		"coins fly to the left", "coins fly to the right", "lands from the left", "lands from the right", "falls from the left", "falls from the right",
		"on its way behind a step", "in the air behind a step", "came in and is not let go of",
	} {
		if tally[name] < 20 {
			t.Errorf("too few of %q: %v", name, tally)
		}
	}
}
