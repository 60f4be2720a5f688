package tests

import (
	"slices"
	"testing"

	"loop.example/landmarch/impl"
)

// story lets things happen one behind the other from WldNew on, with all promises asked for behind each of them.
func story(t *testing.T, m impl.PlcMap, list []impl.WlkWalker, servers int, events ...impl.WldEvent) *chronicle {
	t.Helper()
	c := chronicleOf(t, m, list, servers, map[string]int{})
	return c.goOn(t, events...)
}

// goOn lets more things happen.
func (c *chronicle) goOn(t *testing.T, events ...impl.WldEvent) *chronicle {
	t.Helper()
	for _, e := range events {
		c.step(t, e)
	}
	c.askCounts(t)
	return c
}

// askNotes asks for all notes, in their order.
func (c *chronicle) askNotes(t *testing.T, want ...impl.WldNote) {
	t.Helper()
	if !slices.Equal(c.w.Notes, want) {
		t.Errorf("the notes are %+v, not %+v", c.w.Notes, want)
	}
}

// askRecords asks for all records of a cell's log, in their order.
func (c *chronicle) askRecords(t *testing.T, cell int, want ...impl.LogRec) {
	t.Helper()
	if got := c.w.Stores[cell].Recs; !slices.Equal(got, want) {
		t.Errorf("the log of the cell %d is %+v, not %+v", cell, got, want)
	}
}

// askNet asks for all messages on their way, in their order.
func (c *chronicle) askNet(t *testing.T, want ...impl.MsgMsg) {
	t.Helper()
	if !slices.Equal(c.w.Net, want) {
		t.Errorf("the messages are\n%+v, not\n%+v", c.w.Net, want)
	}
}

// The document's example, told by what is written and noted.
func TestP4TheDocumentsExample(t *testing.T) {
	throw := impl.OrdOrder{Who: 1, Seq: 1, Kind: impl.OrdThrow, To: impl.PlcRight, N: 4}
	step := impl.OrdOrder{Who: 1, Seq: 2, Kind: impl.OrdStep, To: impl.PlcRight}
	list := []impl.WlkWalker{{Id: 1, At: 2, Coins: 9}, {Id: 2, At: 3}}
	c := story(t, impl.PlcMap{Cells: 3, Width: 3}, list, 2,
		grants(0, 0), grants(1, 1), brings(0), brings(0), asks(throw), says(1), doubles(0), brings(0), brings(0), brings(0), brings(0))
	c.askNet(t)
	c.askNotes(t, impl.WldNote{Who: 1, Seq: 1, Code: impl.CodeDone})
	c.askRecords(t, 0, didOf(throw))
	c.goOn(t, asks(step), says(1), brings(0), ticks(0, 0), loses(1), falls(0), grants(0, 1), brings(0), brings(0), brings(0), ticks(1, 0), brings(0), brings(0))
	coins := impl.PclParcel{N: 0, Kind: impl.PclCoins, Coins: 4}
	walker := impl.PclParcel{N: 1, Kind: impl.PclWalker, Walker: impl.WlkWalker{Id: 1, At: 3, Coins: 5, Seq: 2, Last: impl.CodeDone}}
	c.askNotes(t, impl.WldNote{Who: 1, Seq: 1, Code: impl.CodeDone}, impl.WldNote{Who: 1, Seq: 2, Code: impl.CodeDone})
	c.askRecords(t, 0, didOf(throw), didOf(step))
	c.askRecords(t, 1, cameFrom(0, coins), cameFrom(0, walker))
	c.askRecords(t, 2)
	c.askNet(t, gotOf(1, 0, 1, 1), gotOf(1, 0, 1, 2))
	state := impl.StoState(c.w.Map, c.w.Stores[1])
	if state.Ground != 4 || !slices.Equal(state.Walkers, []impl.WlkWalker{walker.Walker, list[1]}) {
		t.Errorf("in the cell 1 there is %+v", state)
	}
}

// A server that held a cell before hears an order for it: it writes nothing, says nothing, and knows now that it does not hold the cell.
func TestP4P5WhoHeldTheCellWritesNothing(t *testing.T) {
	rest := impl.OrdOrder{Who: 1, Seq: 1, Kind: impl.OrdRest}
	list := []impl.WlkWalker{{Id: 1, At: 0, Coins: 3}}
	c := story(t, impl.PlcMap{Cells: 2, Width: 2}, list, 2, grants(0, 0), brings(0), asks(rest), says(1), doubles(0), grants(0, 1), brings(2))
	c.askNet(t, askOf(0, 0, rest), askOf(0, 0, rest))
	if _, held := impl.SrvHold(c.w.Servers[0], 0); !held || c.w.Stores[0].Age != 2 {
		t.Fatalf("the server 0 does not hold what it held: %+v", c.w)
	}
	before := c.w
	c.goOn(t, brings(0))
	c.askNet(t, askOf(0, 0, rest))
	c.askRecords(t, 0)
	c.askNotes(t)
	if len(c.w.Servers[0].Holds) != 0 || !sameServer(c.w.Servers[1], before.Servers[1]) || !sameBook(c.w.Book, before.Book) {
		t.Errorf("behind it there is %+v", c.w)
	}
	// It does not hold the cell any more; the one that does is asked next, and does it once.
	c.goOn(t, brings(0), says(1))
	c.askNet(t, askOf(1, 0, rest))
	c.goOn(t, doubles(0), brings(0), brings(0), brings(0), brings(0))
	c.askNet(t)
	c.askRecords(t, 0, didOf(rest))
	c.askNotes(t, impl.WldNote{Who: 1, Seq: 1, Code: impl.CodeDone})
}

// Until the new server has heard of it the old one writes; the new one knows all of that.
func TestP5TheNewServerKnowsAll(t *testing.T) {
	rest := impl.OrdOrder{Who: 1, Seq: 1, Kind: impl.OrdRest}
	drop := impl.OrdOrder{Who: 1, Seq: 2, Kind: impl.OrdDrop, N: 2}
	c := story(t, impl.PlcMap{Cells: 2, Width: 2}, []impl.WlkWalker{{Id: 1, At: 0, Coins: 3}}, 3,
		grants(0, 0), brings(0), asks(rest), says(1), grants(0, 2), brings(0))
	c.askNet(t, grantOf(2, 0, 2), toldOf(0, rest, impl.CodeDone))
	c.askRecords(t, 0, didOf(rest))
	c.goOn(t, brings(0))
	if hold, held := impl.SrvHold(c.w.Servers[2], 0); !held || hold.Count != 1 || hold.Age != 2 || hold.State.Walkers[0].Seq != 1 {
		t.Errorf("the server 2 has the hold %+v, %v", hold, held)
	}
	c.goOn(t, brings(0), asks(drop), says(1), brings(0), brings(0))
	c.askRecords(t, 0, didOf(rest), didOf(drop))
	c.askNotes(t, impl.WldNote{Who: 1, Seq: 1, Code: impl.CodeDone}, impl.WldNote{Who: 1, Seq: 2, Code: impl.CodeDone})
}

// Grants that come the wrong way round: the earlier one opens nothing.
func TestP5GrantsTheWrongWayRound(t *testing.T) {
	list := []impl.WlkWalker{{Id: 1, At: 0}}
	c := story(t, impl.PlcMap{Cells: 2, Width: 2}, list, 3, grants(0, 0), grants(0, 1), grants(0, 2), grants(0, 0), brings(2))
	if hold, held := impl.SrvHold(c.w.Servers[2], 0); !held || hold.Age != 3 || c.w.Stores[0].Age != 3 {
		t.Errorf("the server 2 has the hold %+v, %v", hold, held)
	}
	c.goOn(t, brings(1), brings(0))
	if len(c.w.Servers[0].Holds) != 0 || len(c.w.Servers[1].Holds) != 0 || c.w.Stores[0].Age != 3 {
		t.Errorf("an earlier grant opens the cell: %+v", c.w)
	}
	c.goOn(t, brings(0))
	if hold, held := impl.SrvHold(c.w.Servers[0], 0); !held || hold.Age != 4 || c.w.Stores[0].Age != 4 {
		t.Errorf("the server 0 has the hold %+v, %v", hold, held)
	}
}

// Who falls and rises holds nothing; a grant that comes twice opens the cell once more, with all that was written.
func TestP5P16P17WhoFallsAndRises(t *testing.T) {
	rest := impl.OrdOrder{Who: 1, Seq: 1, Kind: impl.OrdRest}
	c := story(t, impl.PlcMap{Cells: 2, Width: 2}, []impl.WlkWalker{{Id: 1, At: 1}}, 1,
		grants(0, 0), doubles(0), doubles(0), brings(0), asks(rest), says(1), brings(2), falls(0))
	c.askRecords(t, 0, didOf(rest))
	c.askNet(t, grantOf(0, 0, 1), grantOf(0, 0, 1), toldOf(0, rest, impl.CodeDone))
	c.goOn(t, brings(0))
	c.askNet(t, grantOf(0, 0, 1), toldOf(0, rest, impl.CodeDone))
	if c.w.Servers[0].Up || len(c.w.Servers[0].Holds) != 0 {
		t.Errorf("who is down has %+v", c.w.Servers[0])
	}
	c.goOn(t, rises(0), brings(0))
	if hold, held := impl.SrvHold(c.w.Servers[0], 0); !held || hold.Age != 1 || hold.Count != 1 {
		t.Errorf("the server has the hold %+v, %v", hold, held)
	}
	// It is asked again, and tells what came of it without writing it again.
	c.goOn(t, says(1), brings(1), brings(0), brings(0))
	c.askRecords(t, 0, didOf(rest))
	c.askNotes(t, impl.WldNote{Who: 1, Seq: 1, Code: impl.CodeDone})
	c.askNet(t)
}

// A walker goes over two borders; its next orders are asked for in cell after cell until it is found.
func TestP4P6AWalkerGoesFromCellToCell(t *testing.T) {
	step := func(seq int) impl.OrdOrder {
		return impl.OrdOrder{Who: 7, Seq: seq, Kind: impl.OrdStep, To: impl.PlcRight}
	}
	c := story(t, impl.PlcMap{Cells: 3, Width: 2}, []impl.WlkWalker{{Id: 7, At: 1, Coins: 8, Seq: 3}}, 3,
		grants(0, 0), grants(1, 1), grants(2, 2), brings(0), brings(0), brings(0), ticks(0, 0))
	c.askNet(t, showOf(1, 1, 0, impl.GstGhost{From: 0, Walker: impl.WlkWalker{Id: 7, At: 1, Coins: 8, Seq: 3}}))
	c.goOn(t, asks(step(4)), says(7), brings(1), brings(1), ticks(0, 0), brings(1))
	gone := impl.WlkWalker{Id: 7, At: 2, Coins: 8, Seq: 4, Last: 1}
	c.askRecords(t, 0, didOf(step(4)))
	c.askRecords(t, 1, cameFrom(0, impl.PclParcel{N: 0, Kind: impl.PclWalker, Walker: gone}))
	c.askNet(t, c.w.Net[0], gotOf(0, 0, 1, 1))
	// The ghost is late: it shows what was.
	c.goOn(t, brings(0), brings(0), asks(step(5)), says(7), brings(0))
	c.askRecords(t, 0, didOf(step(4)), ackOf(1, 1))
	c.askNet(t, awayOf(0, step(5)))
	c.goOn(t, brings(0), says(7), brings(0), brings(0), asks(step(6)), says(7), brings(0), brings(0), ticks(1, 1))
	c.askRecords(t, 1, cameFrom(0, impl.PclParcel{N: 0, Kind: impl.PclWalker, Walker: gone}), didOf(step(5)), didOf(step(6)))
	gone.At, gone.Seq = 4, 6
	c.askNet(t, parcelOf(2, 2, 0, impl.PclParcel{N: 0, Kind: impl.PclWalker, Walker: gone}))
	c.goOn(t, doubles(0), doubles(0), brings(0), brings(0), loses(0), brings(0), brings(0))
	c.askRecords(t, 2, cameFrom(0, impl.PclParcel{N: 0, Kind: impl.PclWalker, Walker: gone}))
	c.askNet(t)
	c.askNotes(t, impl.WldNote{Who: 7, Seq: 4, Code: 1}, impl.WldNote{Who: 7, Seq: 5, Code: 1}, impl.WldNote{Who: 7, Seq: 6, Code: 1})
}

// rests lets a walker rest so many times, each order told.
func rests(who, count int) []impl.WldEvent {
	var events []impl.WldEvent
	for range count {
		events = append(events, asks(impl.OrdOrder{Who: who, Kind: impl.OrdRest}), says(who), brings(0), brings(0))
	}
	return events
}

// Behind as many notes as there may be orders are done and told, and noted no more.
func TestP15NotesStopAtTheirMost(t *testing.T) {
	c := story(t, impl.PlcMap{Cells: 2, Width: 2}, []impl.WlkWalker{{Id: 3, At: 0}}, 1, grants(0, 0), brings(0))
	c.goOn(t, rests(3, 149)...)
	for count := 149; count <= 152; count++ {
		if len(c.w.Notes) != min(count, 150) || len(c.w.Stores[0].Recs) != count || c.w.Book.Rows[0].Seq != count || c.w.Book.Rows[0].Busy {
			t.Fatalf("behind %d orders there are %d notes and %d records, and the row is %+v", count, len(c.w.Notes), len(c.w.Stores[0].Recs), c.w.Book.Rows[0])
		}
		c.goOn(t, rests(3, 1)...)
	}
	if last := c.w.Notes[149]; last != (impl.WldNote{Who: 3, Seq: 150, Code: 1}) {
		t.Errorf("the last note is %+v", last)
	}
}

// Behind a full log nothing more is done in its cell, and nothing is told.
func TestP4P14AFullLog(t *testing.T) {
	c := story(t, impl.PlcMap{Cells: 2, Width: 2}, []impl.WlkWalker{{Id: 3, At: 0}, {Id: 5, At: 1}}, 1, grants(0, 0), brings(0))
	c.goOn(t, rests(3, 249)...)
	c.goOn(t, rests(5, 2)...)
	if len(c.w.Stores[0].Recs) != 250 || !c.w.Book.Rows[1].Busy || c.w.Book.Rows[1].Seq != 1 {
		t.Fatalf("there are %d records, and the rows are %+v", len(c.w.Stores[0].Recs), c.w.Book.Rows)
	}
	c.goOn(t, says(5), doubles(0), brings(0), brings(0))
	c.askNet(t)
	if len(c.w.Stores[0].Recs) != 250 || len(c.w.Servers[0].Holds) != 1 {
		t.Errorf("there is %+v", c.w)
	}
}

// The last ages: a cell is granted until StoMaxAge, and no further.
func TestP14P19TheLastAges(t *testing.T) {
	c := chronicleOf(t, impl.PlcMap{Cells: 2, Width: 2}, []impl.WlkWalker{{Id: 3, At: 0}}, 2, map[string]int{})
	for age := 1; age <= 900; age++ {
		c.step(t, grants(0, age%2))
		c.step(t, brings(0))
		if hold, _ := impl.SrvHold(c.w.Servers[age%2], 0); hold.Age != age || c.w.Stores[0].Age != age || c.w.Table.Ages[0] != age {
			t.Fatalf("in the age %d there is %+v", age, c.w)
		}
	}
	before := c.w
	c.goOn(t, grants(0, 0), grants(0, 1))
	if !sameWorld(c.w, before) {
		t.Errorf("behind the last age it is granted: %s", worldsApart(c.w, before))
	}
	c.goOn(t, rests(3, 1)...)
	c.askNotes(t, impl.WldNote{Who: 3, Seq: 1, Code: 1})
}
