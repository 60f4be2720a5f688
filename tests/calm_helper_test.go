package tests

import (
	"math/rand"
	"slices"
	"testing"

	"loop.example/landmarch/impl"
)

// askWhetherAtRest asks WldHeld of each cell, and of what is none, and WldRest, by the words.
func askWhetherAtRest(t *testing.T, w impl.WldWorld) bool {
	t.Helper()
	for cell := -2; cell <= w.Map.Cells+1; cell++ {
		if got, want := impl.WldHeld(w, cell), heldPlainly(w, cell); got != want {
			t.Fatalf("WldHeld(%+v, %d) is %v", w, cell, got)
		}
	}
	rest := impl.WldRest(w)
	if rest != restPlainly(w) {
		t.Fatalf("WldRest(%+v) is %v", w, rest)
	}
	return rest
}

// askCalms asks of a world that is ok that calms of some numbers of rounds, which rise, are as the words say; and for P11 of each of them.
func askCalms(t *testing.T, w impl.WldWorld, numbers ...int) impl.WldWorld {
	t.Helper()
	want, rounds := calmPlainly(w, 0), 0
	for _, n := range numbers {
		for ; rounds < n; rounds++ {
			want = roundPlainly(want)
		}
		got := impl.WldCalm(w, n)
		if !sameWorld(got, want) {
			t.Fatalf("WldCalm(%+v, %d) is not so: %s", w, n, worldsApart(got, want))
		}
		askWhetherAtRest(t, got)
		askOneRoundMore(t, w, n, got)
	}
	return want
}

// askOneRoundMore asks for P11.
func askOneRoundMore(t *testing.T, w impl.WldWorld, n int, calm impl.WldWorld) {
	t.Helper()
	if n < 1 {
		up := turnedWorld(w, func(w *impl.WldWorld) {
			for i := range w.Servers {
				w.Servers[i].Up = true
			}
		})
		if !sameWorld(calm, up) {
			t.Fatalf("WldCalm of %d rounds turns more than that all are up: %s", n, worldsApart(calm, up))
		}
		return
	}
	if n >= 60 {
		return
	}
	if got, want := impl.WldCalm(calm, 1), impl.WldCalm(w, n+1); !sameWorld(got, want) {
		t.Fatalf("behind %d rounds of %+v one more is not %d: %s", n, w, n+1, worldsApart(got, want))
	}
}

// askRestful asks of a world to which at most 200 steps have led for P7, P8, P9 and P10: the world behind 20 rounds.
func askRestful(t *testing.T, w impl.WldWorld) impl.WldWorld {
	t.Helper()
	one := impl.WldCalm(w, 1)
	for cell := range w.Map.Cells {
		if !impl.WldHeld(one, cell) {
			t.Fatalf("behind one round of %+v the cell %d is not held: %+v", w, cell, one)
		}
		if impl.WldHeld(w, cell) && (one.Table.Servers[cell] != w.Table.Servers[cell] || one.Table.Ages[cell] != w.Table.Ages[cell]) {
			t.Fatalf("behind one round of %+v another server has the cell %d: %+v", w, cell, one.Table)
		}
	}
	calm := impl.WldCalm(w, 20)
	if !impl.WldRest(calm) || !restPlainly(calm) {
		t.Fatalf("behind 20 rounds of %+v there is no rest: %+v", w, calm)
	}
	askAllDone(t, w, calm)
	askStaysAtRest(t, calm)
	return calm
}

// askAllDone asks for P8 of a world, and of what it is behind its calm.
func askAllDone(t *testing.T, w, calm impl.WldWorld) {
	t.Helper()
	did, noted := map[int][]impl.OrdOrder{}, map[int][]impl.WldNote{}
	for cell, s := range calm.Stores {
		for _, r := range s.Recs[len(w.Stores[cell].Recs):] {
			if r.Kind == impl.LogDo {
				did[r.Order.Who] = append(did[r.Order.Who], r.Order)
			}
		}
	}
	for _, n := range calm.Notes[len(w.Notes):] {
		noted[n.Who] = append(noted[n.Who], n)
	}
	for i, row := range w.Book.Rows {
		var orders []impl.OrdOrder
		var notes []impl.WldNote
		if row.Busy {
			code, count := cameOf(calm, row.Order)
			if count != 1 || impl.WldCount(calm, row.Who, row.Order.Seq) != 1 {
				t.Fatalf("the order %+v is done %d times", row.Order, count)
			}
			if _, before := cameOf(w, row.Order); before == 0 {
				orders = append(orders, row.Order)
			}
			notes = append(notes, impl.WldNote{Who: row.Who, Seq: row.Order.Seq, Code: code})
			row = impl.GwyRow{Who: row.Who, Cell: calm.Book.Rows[i].Cell, Seq: row.Order.Seq, Code: code}
		}
		if !slices.Equal(did[row.Who], orders) || !slices.Equal(noted[row.Who], notes) || calm.Book.Rows[i] != row {
			t.Fatalf("in the calm of %+v the walker %d did %+v and was told %+v, and has the row %+v", w, row.Who, did[row.Who], noted[row.Who], calm.Book.Rows[i])
		}
		delete(did, row.Who)
		delete(noted, row.Who)
	}
	if len(did) > 0 || len(noted) > 0 {
		t.Fatalf("in the calm of %+v who has no row did %+v and was told %+v", w, did, noted)
	}
}

// cameOf is what came of an order where its record stands, and how many such records there are.
func cameOf(w impl.WldWorld, o impl.OrdOrder) (code, count int) {
	for _, s := range w.Stores {
		state := s.Base
		for _, r := range s.Recs {
			after, came, _ := applyPlainly(w.Map, state, r)
			state = after
			if r.Kind == impl.LogDo && r.Order.Who == o.Who && r.Order.Seq == o.Seq {
				code = came
				count++
			}
		}
	}
	return code, count
}

// ranFor is a world behind so many events from WldNew on, and these; next is what happens next.
func ranFor(t *testing.T, first impl.WldWorld, count int, next func(impl.WldWorld) impl.WldEvent) (impl.WldWorld, []impl.WldEvent) {
	t.Helper()
	w := first
	var events []impl.WldEvent
	for range count {
		e := next(w)
		events = append(events, e)
		w = impl.WldStep(w, e)
	}
	if got := impl.WldRun(first, events); !sameWorld(got, w) {
		t.Fatalf("WldRun of %+v is not one step behind the other: %s", events, worldsApart(got, w))
	}
	return w, events
}

// pilingEvent is a thing that may happen next where no cell is told of, so that parcels pile up: nothing but throws to a side and some steps, said and brought.
func pilingEvent(r *rand.Rand, w impl.WldWorld, side int) impl.WldEvent {
	for cell, server := range w.Table.Servers {
		if server < 0 {
			return grants(cell, r.Intn(len(w.Servers)))
		}
	}
	if len(w.Net) > 0 {
		return brings(0)
	}
	row := w.Book.Rows[r.Intn(len(w.Book.Rows))]
	if row.Busy && r.Intn(8) > 0 {
		return says(row.Who)
	}
	if r.Intn(40) == 0 {
		return asks(impl.OrdOrder{Who: row.Who, Kind: impl.OrdStep, To: side})
	}
	return asks(impl.OrdOrder{Who: row.Who, Kind: impl.OrdThrow, To: side, N: 1})
}

// fillingEvent is a thing by which there is a message more, mostly.
func fillingEvent(r *rand.Rand, w impl.WldWorld) impl.WldEvent {
	cell, server := r.Intn(w.Map.Cells), r.Intn(len(w.Servers))
	if n := len(w.Net); n > 0 && r.Intn(4) > 0 {
		return doubles(r.Intn(n))
	}
	if len(w.Book.Rows) > 0 && r.Intn(2) == 0 {
		return says(w.Book.Rows[r.Intn(len(w.Book.Rows))].Who)
	}
	if w.Table.Servers[cell] >= 0 && r.Intn(2) == 0 {
		return ticks(w.Table.Servers[cell], cell)
	}
	return grants(cell, server)
}

// countCells counts of which kinds the cells of a world are, ahead of its calm.
func countCells(w impl.WldWorld, tally map[string]int) {
	kinds := map[string]bool{}
	for cell, server := range w.Table.Servers {
		switch {
		case server < 0:
			kinds["a cell that nobody was given"] = true
		case !heldPlainly(w, cell):
			kinds["a cell that is given and not held"] = true
		default:
			kinds["a cell that is held"] = true
			if server != cell%len(w.Servers) {
				kinds["a cell that is held by another than its number says"] = true
			}
		}
	}
	for name := range kinds {
		tally[name]++
	}
	if kinds["a cell that nobody was given"] && kinds["a cell that is given and not held"] && kinds["a cell that is held"] {
		tally["all three in one world"]++
	}
}

// countWorld counts what is there in a world ahead of its calm, so that the worlds are seen to come to all of it.
func countWorld(w impl.WldWorld, tally map[string]int) {
	countCells(w, tally)
	count := func(name string, there bool) {
		if there {
			tally[name]++
		}
	}
	for _, row := range w.Book.Rows {
		if row.Busy {
			_, done := cameOf(w, row.Order)
			count("an order that is not done", done == 0)
			count("an order that is done and not told", done == 1)
		}
	}
	for _, s := range w.Servers {
		count("a server that is down", !s.Up)
	}
	for _, s := range w.Stores {
		count("a log of several records", len(s.Recs) > 3)
		state, _ := foldPlainly(w.Map, s.Base, s.Recs)
		for _, parcels := range state.Outs {
			count("more than twenty parcels to a side", len(parcels) > 20)
			for _, p := range parcels {
				count("a walker on its way", p.Kind == impl.PclWalker)
				count("coins on their way", p.Kind == impl.PclCoins)
			}
		}
	}
	for _, x := range w.Net {
		count("a message", true)
		count("a grant", x.Kind == impl.MsgGrant)
	}
	count("as many messages as there may be", len(w.Net) == 40)
	count("at rest", restPlainly(w))
}
