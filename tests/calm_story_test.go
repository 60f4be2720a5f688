package tests

import (
	"slices"
	"testing"

	"loop.example/landmarch/impl"
)

// calmed is a world behind so many calm rounds, by the words as well.
func calmed(t *testing.T, w impl.WldWorld, rounds int) impl.WldWorld {
	t.Helper()
	if !worldOkPlainly(w) {
		t.Fatalf("the test's own %+v is not ok", w)
	}
	return askCalms(t, w, rounds)
}

// askRestBehind asks that a world comes to rest behind so many rounds, and not ahead of that.
func askRestBehind(t *testing.T, w impl.WldWorld, rounds int) impl.WldWorld {
	t.Helper()
	for n := range rounds {
		if impl.WldRest(calmed(t, w, n)) {
			t.Fatalf("there is rest behind %d rounds, not %d", n, rounds)
		}
	}
	calm := calmed(t, w, rounds)
	for _, n := range []int{rounds, rounds + 1, rounds + 2, 60} {
		if !impl.WldRest(calmed(t, w, n)) {
			t.Fatalf("there is no rest behind %d rounds", n)
		}
	}
	return calm
}

// askTable asks who has which cell, in which age.
func askTable(t *testing.T, w impl.WldWorld, servers, ages []int) {
	t.Helper()
	if !sameTable(w.Table, impl.ArbTable{Servers: servers, Ages: ages}) {
		t.Errorf("the table is %+v, not %v, %v", w.Table, servers, ages)
	}
}

// The world of WldNew: each cell is given to the server whose number is its own, mod how many servers there are.
func TestP10WhoIsGivenACell(t *testing.T) {
	for _, c := range []struct {
		servers int
		given   []int
	}{
		{1, []int{0, 0}}, {2, []int{0, 1}}, {3, []int{0, 1}},
		{1, []int{0, 0, 0}}, {2, []int{0, 1, 0}}, {3, []int{0, 1, 2}},
		{1, []int{0, 0, 0, 0}}, {2, []int{0, 1, 0, 1}}, {3, []int{0, 1, 2, 0}},
	} {
		m := impl.PlcMap{Cells: len(c.given), Width: 3}
		// No walker is at an edge, so that there are no ghosts.
		for _, list := range [][]impl.WlkWalker{nil, {{Id: 4, At: 1}}, {{Id: 2, At: 4, Coins: 7}, {Id: 9, At: 4}}} {
			first := impl.WldNew(m, list, c.servers)
			want := turnedWorld(first, func(w *impl.WldWorld) {
				for cell, server := range c.given {
					w.Table.Servers[cell], w.Table.Ages[cell], w.Stores[cell].Age = server, 1, 1
					w.Servers[server].Holds = append(w.Servers[server].Holds, impl.HldHolder{Age: 1, State: w.Stores[cell].Base})
				}
			})
			if got := askRestBehind(t, first, 1); !sameWorld(got, want) {
				t.Errorf("behind a round of %d cells and %d servers it is not so: %s", m.Cells, c.servers, worldsApart(got, want))
			}
			askRestful(t, first)
		}
	}
}

// A cell that is held by another server, one whose grant is lost, one that nobody was given, and one whose grant is on its way, in one world.
func TestP10CellsOfAllKinds(t *testing.T) {
	m, list := impl.PlcMap{Cells: 4, Width: 2}, []impl.WlkWalker{{Id: 1, At: 0}, {Id: 2, At: 5}}
	ask := func(servers, ages []int, events ...impl.WldEvent) {
		t.Helper()
		c := story(t, m, list, 2, events...)
		askRestful(t, c.w)
		askTable(t, calmed(t, c.w, 1), servers, ages)
		askTable(t, calmed(t, c.w, 20), servers, ages)
	}
	ask([]int{1, 1, 0, 0}, []int{1, 2, 1, 1}, grants(0, 1), brings(0), grants(1, 0), loses(0), grants(3, 0))
	// All of them on their way: each is brought ahead of the round's own grants, to whom it was given.
	ask([]int{1, 0, 1, 0}, []int{1, 1, 1, 1}, grants(0, 1), grants(1, 0), grants(2, 1), grants(3, 0))
	// A server that has fallen holds nothing, and its grants are gone; it rises ahead of the round.
	ask([]int{0, 1, 0, 1}, []int{2, 1, 1, 2}, grants(0, 1), brings(0), grants(3, 1), brings(0), falls(1))
	ask([]int{0, 0, 0, 1}, []int{2, 1, 1, 1}, grants(0, 1), brings(0), grants(1, 0), grants(3, 1), falls(1), falls(0))
	// Who falls and rises has fallen.
	ask([]int{0, 1, 0, 1}, []int{2, 1, 1, 1}, grants(0, 1), brings(0), falls(1), rises(1))
	// A hold of an earlier age is none: the cell was given to the same server again, or to another one, and that grant is lost.
	ask([]int{0, 1, 0, 1}, []int{3, 1, 1, 3}, grants(0, 1), brings(0), grants(0, 1), loses(0), grants(3, 0), brings(0), grants(3, 1), loses(0))
	// Where that grant is on its way the other server has the cell.
	ask([]int{1, 1, 0, 0}, []int{2, 1, 1, 2}, grants(0, 0), brings(0), grants(0, 1), grants(3, 1), grants(3, 0), brings(2))
}

// The walker goes over the border: it is said behind what the cells are told, so that it comes there in the next round.
func TestP7P8AStepOverABorder(t *testing.T) {
	step := impl.OrdOrder{Who: 1, Seq: 1, Kind: impl.OrdStep, To: impl.PlcRight}
	c := story(t, impl.PlcMap{Cells: 3, Width: 2}, []impl.WlkWalker{{Id: 1, At: 1, Coins: 3}}, 2, asks(step))
	gone := impl.WlkWalker{Id: 1, At: 2, Coins: 3, Seq: 1, Last: impl.CodeDone}
	parcel := impl.PclParcel{N: 0, Kind: impl.PclWalker, Walker: gone}
	first := calmed(t, c.w, 1)
	want := []impl.WldNote{{Who: 1, Seq: 1, Code: impl.CodeDone}}
	if !slices.Equal(first.Notes, want) || !slices.Equal(first.Stores[0].Recs, []impl.LogRec{didOf(step)}) || len(first.Stores[1].Recs) > 0 || impl.WldRest(first) {
		t.Errorf("behind one round there is %+v", first)
	}
	// What is shown is of the time ahead of the order.
	if !slices.Equal(first.Servers[1].Ghosts, []impl.GstGhost{{From: 0, Walker: impl.WlkWalker{Id: 1, At: 1, Coins: 3}}}) {
		t.Errorf("behind one round the server 1 has the ghosts %+v", first.Servers[1].Ghosts)
	}
	second := askRestBehind(t, c.w, 2)
	if !slices.Equal(second.Notes, want) || !slices.Equal(second.Stores[0].Recs, []impl.LogRec{didOf(step), ackOf(1, 1)}) || !slices.Equal(second.Stores[1].Recs, []impl.LogRec{cameFrom(0, parcel)}) {
		t.Errorf("behind two rounds there is %+v", second)
	}
	askTable(t, second, []int{0, 1, 0}, []int{1, 1, 1})
	// The cell 1 is told of behind the cell 0 in one round: the walker is shown to the left in the round in which it comes.
	if !slices.Equal(second.Servers[0].Ghosts, []impl.GstGhost{{From: 1, Count: 1, Walker: gone}}) {
		t.Errorf("behind two rounds the server 0 has the ghosts %+v", second.Servers[0].Ghosts)
	}
	askRestful(t, c.w)
}

// To the left: the cell 0 is told of ahead of the cell 1, so that it hears of the walker in that round, and shows it in the next one.
func TestP7P8AStepToTheLeft(t *testing.T) {
	step := impl.OrdOrder{Who: 1, Seq: 1, Kind: impl.OrdStep, To: impl.PlcLeft}
	c := story(t, impl.PlcMap{Cells: 2, Width: 2}, []impl.WlkWalker{{Id: 1, At: 2}}, 2, asks(step))
	gone := impl.WlkWalker{Id: 1, At: 1, Seq: 1, Last: impl.CodeDone}
	second := askRestBehind(t, c.w, 2)
	if !slices.Equal(second.Stores[0].Recs, []impl.LogRec{cameFrom(1, impl.PclParcel{N: 0, Kind: impl.PclWalker, Walker: gone})}) || len(second.Servers[1].Ghosts) > 0 {
		t.Errorf("behind two rounds there is %+v", second)
	}
	third := calmed(t, c.w, 3)
	if !slices.Equal(third.Servers[1].Ghosts, []impl.GstGhost{{From: 0, Count: 1, Walker: gone}}) {
		t.Errorf("behind three rounds the server 1 has the ghosts %+v", third.Servers[1].Ghosts)
	}
}

// An order that was done, and was not told as the message is lost: it is told in the calm, and not done again.
func TestP8AnOrderThatWasDone(t *testing.T) {
	rest := impl.OrdOrder{Who: 2, Seq: 6, Kind: impl.OrdRest}
	c := story(t, impl.PlcMap{Cells: 2, Width: 2}, []impl.WlkWalker{{Id: 2, At: 0, Seq: 5, Last: 2}}, 1, grants(0, 0), brings(0), asks(rest), says(2), brings(0), loses(0))
	c.askRecords(t, 0, didOf(rest))
	calm := askRestBehind(t, c.w, 1)
	askAllDone(t, c.w, calm)
	if !slices.Equal(calm.Stores[0].Recs, []impl.LogRec{didOf(rest)}) || !slices.Equal(calm.Notes, []impl.WldNote{{Who: 2, Seq: 6, Code: impl.CodeDone}}) {
		t.Errorf("behind the calm there is %+v", calm)
	}
}

// A walker that is gone to the left, while that was not told: it is asked for in one cell a round, until the gateway comes round to it.
func TestP8AWalkerIsAskedForAllRound(t *testing.T) {
	step := impl.OrdOrder{Who: 8, Seq: 1, Kind: impl.OrdStep, To: impl.PlcLeft}
	c := story(t, impl.PlcMap{Cells: 4, Width: 2}, []impl.WlkWalker{{Id: 8, At: 2, Coins: 1}}, 3, grants(1, 2), brings(0), asks(step), says(8), brings(0), loses(0))
	c.askRecords(t, 1, didOf(step))
	for rounds, cell := range []int{1, 2, 3, 0} {
		calm := calmed(t, c.w, rounds)
		if row := calm.Book.Rows[0]; row.Cell != cell || !row.Busy || len(calm.Notes) > 0 {
			t.Errorf("behind %d rounds the row is %+v", rounds, row)
		}
	}
	calm := askRestBehind(t, c.w, 4)
	askAllDone(t, c.w, calm)
	if row := calm.Book.Rows[0]; row != (impl.GwyRow{Who: 8, Cell: 0, Seq: 1, Code: impl.CodeDone}) {
		t.Errorf("the row is %+v", row)
	}
	askRestful(t, c.w)
}

// The rows are said in their order: the second walker finds what the first one drops, and not the other way round.
func TestP8RowsAreSaidInTheirOrder(t *testing.T) {
	drop, pick := impl.OrdOrder{Who: 3, Kind: impl.OrdDrop, N: 5}, impl.OrdOrder{Who: 7, Kind: impl.OrdPick, N: 5}
	list := []impl.WlkWalker{{Id: 3, At: 0, Coins: 5}, {Id: 7, At: 1}}
	c := story(t, impl.PlcMap{Cells: 2, Width: 2}, list, 2, asks(pick), asks(drop))
	if calm := askRestBehind(t, c.w, 1); !slices.Equal(calm.Notes, []impl.WldNote{{Who: 3, Seq: 1, Code: impl.CodeDone}, {Who: 7, Seq: 1, Code: impl.CodeDone}}) {
		t.Errorf("the notes are %+v", calm.Notes)
	}
	drop.Who, pick.Who = 7, 3
	list[0].Coins, list[1].Coins = 0, 5
	c = story(t, impl.PlcMap{Cells: 2, Width: 2}, list, 2, asks(drop), asks(pick))
	if calm := askRestBehind(t, c.w, 1); !slices.Equal(calm.Notes, []impl.WldNote{{Who: 3, Seq: 1, Code: impl.CodeBare}, {Who: 7, Seq: 1, Code: impl.CodeDone}}) {
		t.Errorf("the notes are %+v", calm.Notes)
	}
}

// What was said ahead of the calm is brought ahead of what the calm says, the first message first.
func TestP8TheFirstMessageFirst(t *testing.T) {
	drop, pick := impl.OrdOrder{Who: 7, Kind: impl.OrdDrop, N: 5}, impl.OrdOrder{Who: 3, Kind: impl.OrdPick, N: 5}
	list := []impl.WlkWalker{{Id: 3, At: 0}, {Id: 7, At: 1, Coins: 5}}
	for _, first := range []int{7, 3} {
		c := story(t, impl.PlcMap{Cells: 2, Width: 2}, list, 1, grants(0, 0), brings(0), asks(drop), asks(pick), says(first), says(10-first))
		want := []impl.WldNote{{Who: 7, Seq: 1, Code: impl.CodeDone}, {Who: 3, Seq: 1, Code: impl.CodeDone}}
		if first == 3 {
			want = []impl.WldNote{{Who: 3, Seq: 1, Code: impl.CodeBare}, {Who: 7, Seq: 1, Code: impl.CodeDone}}
		}
		if calm := askRestBehind(t, c.w, 1); !slices.Equal(calm.Notes, want) {
			t.Errorf("where %d is said first the notes are %+v", first, calm.Notes)
		}
	}
	// The order of the other walker was not said ahead of the calm.
	c := story(t, impl.PlcMap{Cells: 2, Width: 2}, list, 1, grants(0, 0), brings(0), asks(drop), asks(pick), says(7))
	if calm := calmed(t, c.w, 1); calm.Notes[0].Who != 7 || calm.Notes[1].Code != impl.CodeDone {
		t.Errorf("the notes are %+v", calm.Notes)
	}
}

// As many throws as 200 steps have room for: four of them come in each round.
func TestP7ManyThrows(t *testing.T) {
	for side := range 2 {
		first := impl.WldNew(impl.PlcMap{Cells: 2, Width: 2}, []impl.WlkWalker{{Id: 1, At: 1 + side, Coins: 99}}, 2)
		// The border is to the right of the cell 0, and to the left of the cell 1.
		to, from := 1-side, side
		events := []impl.WldEvent{grants(from, 0), brings(0)}
		for range 49 {
			events = append(events, asks(impl.OrdOrder{Who: 1, Kind: impl.OrdThrow, To: to, N: 1}), says(1), brings(0), brings(0))
		}
		w := impl.WldRun(first, events)
		if len(w.Notes) != 49 || len(impl.StoState(w.Map, w.Stores[from]).Outs[to]) != 49 {
			t.Fatalf("behind %d steps there is %+v", len(events), w)
		}
		for rounds := 1; rounds <= 13; rounds++ {
			calm := calmed(t, w, rounds)
			left := len(impl.StoState(w.Map, calm.Stores[from]).Outs[to])
			if ground := impl.StoState(w.Map, calm.Stores[1-from]).Ground; ground != min(49, 4*rounds) || left != 49-ground {
				t.Errorf("behind %d rounds %d coins lie there, %d are on their way", rounds, ground, left)
			}
		}
		askRestBehind(t, w, 13)
		askRestful(t, w)
	}
}
