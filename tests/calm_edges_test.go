package tests

import (
	"slices"
	"testing"

	"loop.example/landmarch/impl"
)

// calmCases is worlds of many kinds that are ok.
func calmCases() map[string]impl.WldWorld {
	return map[string]impl.WldWorld{
		"the world of the cases":        standingWorld(),
		"all servers down":              worldWith(serverDown(0), serverDown(1)),
		"one server down":               worldWith(serverDown(1)),
		"no messages":                   worldWith(netOf(0)),
		"as many messages as may be":    worldWith(netOf(40)),
		"as many notes as may be":       worldWith(notesOf(150)),
		"parcels to be told of":         tickingWorld(9),
		"a new world":                   impl.WldNew(messagesMap, nil, 3),
		"a new world of nine walkers":   impl.WldNew(impl.PlcMap{Cells: 4, Width: 8}, nineWalkers(32), 1),
		"a world at rest":               restingWorld(),
		"at rest but for who is down":   turnedWorld(restingWorld(), serverDown(1)),
		"at rest, and a message":        turnedWorld(restingWorld(), sends(grantOf(0, 2, 4))),
		"at rest, with full messages":   turnedWorld(restingWorld(), sends(grantOf(0, 2, 4)), netOf(40)),
		"at rest, in the last age":      turnedWorld(restingWorld(), lastAges),
		"no hold, behind the last ages": turnedWorld(restingWorld(), lastAges, serverDown(0), serverDown(1)),
	}
}

// nineWalkers is one of each number, over so many places.
func nineWalkers(places int) []impl.WlkWalker {
	var list []impl.WlkWalker
	for id := 1; id <= 9; id++ {
		list = append(list, impl.WlkWalker{Id: id, At: id * 7 % places, Coins: 11 * id})
	}
	return list
}

// lastAges lets all that is of the table's age be of the last one.
func lastAges(w *impl.WldWorld) {
	for cell, age := range w.Table.Ages {
		for _, s := range w.Servers {
			for i, h := range s.Holds {
				if h.State.Cell == cell && h.Age == age {
					s.Holds[i].Age = 900
				}
			}
		}
		w.Table.Ages[cell], w.Stores[cell].Age = 900, 900
	}
}

// Rounds below 0, none, one, as many as may be, and more.
func TestP11RoundsAtTheirBounds(t *testing.T) {
	for why, w := range calmCases() {
		if !worldOkPlainly(w) {
			t.Fatalf("%s: the test's own %+v is not ok", why, w)
		}
		askCalms(t, w, -1, 0, 1, 2, 58, 59, 60)
		none := impl.WldCalm(w, 0)
		for _, n := range append([]int{-60, -2, -1, 61, 62, 200}, farNumbers...) {
			got := impl.WldCalm(w, n)
			if n < 0 && !sameWorld(got, none) {
				t.Errorf("%s: %d rounds are not none: %s", why, n, worldsApart(got, none))
			}
			if n > 60 && !isNoWorld(got) {
				t.Errorf("%s: behind %d rounds there is %+v", why, n, got)
			}
		}
	}
}

// With no round servers that are down are up, with nothing; those that are up, and all else, are as they were, messages for them as well.
func TestP11NoRoundsButAllAreUp(t *testing.T) {
	for _, n := range []int{-1, 0} {
		w := worldWith(netOf(40), serverDown(0))
		want := turnedWorld(w, func(w *impl.WldWorld) { w.Servers[0] = impl.SrvServer{Up: true} })
		if got := impl.WldCalm(w, n); !sameWorld(got, want) {
			t.Errorf("with the server 0 down it is not so: %s", worldsApart(got, want))
		}
		if got := impl.WldCalm(standingWorld(), n); !sameWorld(got, standingWorld()) {
			t.Errorf("with both up it is not so: %s", worldsApart(got, standingWorld()))
		}
	}
}

// The messages ahead of a calm are brought to who has risen.
func TestP10WhoHasRisenHears(t *testing.T) {
	c := story(t, impl.PlcMap{Cells: 2, Width: 2}, []impl.WlkWalker{{Id: 1, At: 0}}, 2, falls(1), grants(0, 1), falls(0), grants(1, 0))
	calm := calmed(t, c.w, 1)
	askTable(t, calm, []int{1, 0}, []int{1, 1})
	askRestful(t, c.w)
}

// broughtUntilNone is how many messages are brought until there are none.
func broughtUntilNone(t *testing.T, w impl.WldWorld) (impl.WldWorld, int) {
	t.Helper()
	count := 0
	for ; len(w.Net) > 0; count++ {
		if count > 200 {
			t.Fatalf("more than 200 messages are brought, and there are still %+v", w.Net)
		}
		w = impl.WldStep(w, brings(0))
	}
	return w, count
}

// The most that can be brought at once: as many messages as may be on their way, of which each is answered. An answer has none.
func TestP7P11TheMostThatIsBrought(t *testing.T) {
	rest := impl.OrdOrder{Who: 1, Seq: 1, Kind: impl.OrdRest}
	first := impl.WldRun(impl.WldNew(impl.PlcMap{Cells: 2, Width: 2}, []impl.WlkWalker{{Id: 1, At: 0}}, 1), []impl.WldEvent{grants(0, 0), grants(1, 0), brings(0), brings(0), asks(rest), says(1)})
	for messages := 1; messages <= 41; messages++ {
		w := impl.WldRun(first, slices.Repeat([]impl.WldEvent{doubles(0)}, messages-1))
		all, count := broughtUntilNone(t, w)
		if count != 2*min(messages, 40) {
			t.Fatalf("of %d messages %d are brought", messages, count)
		}
		// Behind that there is nothing to be granted, told of or said.
		if calm := askRestBehind(t, w, 1); !sameWorld(calm, all) || len(calm.Stores[0].Recs) != 1 || len(calm.Notes) != 1 {
			t.Errorf("behind one round of %d messages it is not so: %s", messages, worldsApart(calm, all))
		}
		askRestful(t, w)
	}
	for why, w := range calmCases() {
		if _, count := broughtUntilNone(t, w); count > 2*len(w.Net) {
			t.Errorf("%s: of %d messages %d are brought", why, len(w.Net), count)
		}
	}
}

// The most that can be brought is brought ahead of what a round says itself: forty parcels come in and are let go of, so that the four behind them are said next.
func TestP11TheMostIsBroughtFirst(t *testing.T) {
	w := impl.WldRun(impl.WldNew(impl.PlcMap{Cells: 2, Width: 2}, []impl.WlkWalker{{Id: 1, At: 1, Coins: 99}}, 1), []impl.WldEvent{grants(0, 0), grants(1, 0), brings(0), brings(0)})
	for range 45 {
		w = impl.WldRun(w, []impl.WldEvent{asks(impl.OrdOrder{Who: 1, Kind: impl.OrdThrow, To: 1, N: 1}), says(1), brings(0), brings(0)})
	}
	for n := range 40 {
		w.Net = append(w.Net, parcelOf(0, 1, 0, impl.PclParcel{N: n, Kind: impl.PclCoins, Coins: 1}))
	}
	if _, count := broughtUntilNone(t, w); count != 80 {
		t.Fatalf("%d messages are brought", count)
	}
	calm := calmed(t, w, 1)
	from, there := impl.StoState(w.Map, calm.Stores[0]), impl.StoState(w.Map, calm.Stores[1])
	if there.Ground != 44 || len(from.Outs[1]) != 1 || from.Outs[1][0].N != 44 || len(calm.Net) > 0 {
		t.Errorf("behind one round %d coins lie there, and on their way are %+v", there.Ground, from.Outs)
	}
	askRestBehind(t, w, 2)
}

// Behind the last age no cell is granted: one that is not held then stays so, and there is no rest.
func TestP10BehindTheLastAge(t *testing.T) {
	m, list := impl.PlcMap{Cells: 3, Width: 2}, []impl.WlkWalker{{Id: 1, At: 1}, {Id: 2, At: 3}}
	rest := impl.OrdOrder{Who: 2, Seq: 1, Kind: impl.OrdRest}
	at := func(age int, turns ...worldTurn) impl.WldWorld {
		return turnedWorld(impl.WldNew(m, list, 2), append([]worldTurn{func(w *impl.WldWorld) {
			w.Table.Servers[1], w.Table.Ages[1] = 0, age
			w.Book.Rows[1].Busy, w.Book.Rows[1].Order = true, rest
		}}, turns...)...)
	}
	// One more age there is.
	w := at(899)
	askTable(t, calmed(t, w, 1), []int{0, 1, 0}, []int{1, 900, 1})
	askRestBehind(t, w, 1)
	w = at(900)
	for _, rounds := range []int{1, 2, 60} {
		calm := calmed(t, w, rounds)
		askTable(t, calm, []int{0, 0, 0}, []int{1, 900, 1})
		if impl.WldHeld(calm, 1) || !impl.WldHeld(calm, 0) || !impl.WldHeld(calm, 2) || impl.WldRest(calm) || len(calm.Net) > 0 || !calm.Book.Rows[1].Busy {
			t.Errorf("behind %d rounds there is %+v", rounds, calm)
		}
	}
	// The grant of the last age is on its way.
	w = at(900, sends(grantOf(0, 1, 900)))
	askTable(t, calmed(t, w, 1), []int{0, 0, 0}, []int{1, 900, 1})
	askRestBehind(t, w, 1)
	// One of an earlier age is of no use.
	w = at(900, sends(grantOf(0, 1, 899)))
	if calm := calmed(t, w, 20); impl.WldHeld(calm, 1) || impl.WldRest(calm) || calm.Stores[1].Age != 899 {
		t.Errorf("there is %+v", calm)
	}
	// All cells at once: held, and not held.
	if !impl.WldRest(calmed(t, turnedWorld(restingWorld(), lastAges), 20)) {
		t.Errorf("in the last ages there is no rest")
	}
	none := turnedWorld(restingWorld(), lastAges, serverDown(0), serverDown(1))
	if calm := calmed(t, none, 20); !sameWorld(calm, calmed(t, none, 0)) || impl.WldRest(calm) {
		t.Errorf("behind the last ages there is %+v", calm)
	}
}

// Behind as many notes as there may be an order is done and told, and not noted.
func TestP7NotesAtTheirMost(t *testing.T) {
	for _, count := range []int{148, 149, 150} {
		w := turnedWorld(impl.WldNew(impl.PlcMap{Cells: 2, Width: 2}, []impl.WlkWalker{{Id: 1, At: 0}, {Id: 2, At: 1}, {Id: 3, At: 2}}, 2), notesOf(count))
		w = impl.WldRun(w, []impl.WldEvent{asks(impl.OrdOrder{Who: 1, Kind: 6}), asks(impl.OrdOrder{Who: 3, Kind: 6})})
		calm := askRestBehind(t, w, 1)
		if len(calm.Notes) != 150 || impl.WldCount(calm, 1, 1) != 1 || impl.WldCount(calm, 3, 1) != 1 || calm.Book.Rows[2].Seq != 1 {
			t.Errorf("behind %d notes there is %+v", count, calm)
		}
		told := []impl.WldNote{{Who: 1, Seq: 1, Code: 1}, {Who: 3, Seq: 1, Code: 1}}
		if got := calm.Notes[count:]; !slices.Equal(got, told[:150-count]) {
			t.Errorf("behind %d notes there are %+v", count, got)
		}
	}
}

// restsIn lets a walker have rested so many times in a cell.
func restsIn(cell, who, count int) worldTurn {
	return func(w *impl.WldWorld) {
		for seq := 1; seq <= count; seq++ {
			w.Stores[cell].Recs = append(w.Stores[cell].Recs, restOf(who, seq))
		}
		for i := range w.Book.Rows {
			if w.Book.Rows[i].Who == who {
				w.Book.Rows[i].Seq, w.Book.Rows[i].Code = count, 1
			}
		}
	}
}

// Where a log is full nothing more is done, comes in, or is let go of: there is no rest, if something of that is left.
func TestP7FullLogs(t *testing.T) {
	m, list := impl.PlcMap{Cells: 2, Width: 2}, []impl.WlkWalker{{Id: 1, At: 0, Coins: 9}, {Id: 2, At: 1, Coins: 9}, {Id: 3, At: 2}}
	with := func(o impl.OrdOrder, turns ...worldTurn) impl.WldWorld {
		return impl.WldRun(turnedWorld(impl.WldNew(m, list, 2), turns...), []impl.WldEvent{asks(o)})
	}
	rest, throw := impl.OrdOrder{Who: 2, Kind: impl.OrdRest}, impl.OrdOrder{Who: 2, Kind: impl.OrdThrow, To: 1, N: 4}
	ask := func(why string, w impl.WldWorld, records []int, notes, ground int) {
		t.Helper()
		calm := calmed(t, w, 20)
		got := []int{len(calm.Stores[0].Recs), len(calm.Stores[1].Recs)}
		if impl.WldRest(calm) || !slices.Equal(got, records) || len(calm.Notes) != notes || impl.StoState(m, calm.Stores[1]).Ground != ground {
			t.Errorf("%s: there are %v records, %d notes, and %+v", why, got, len(calm.Notes), calm)
		}
		askCalms(t, w, 1, 2, 60)
	}
	// The last record.
	if calm := askRestBehind(t, with(rest, restsIn(0, 1, 249)), 1); len(calm.Stores[0].Recs) != 250 || len(calm.Notes) != 1 {
		t.Errorf("there is %+v", calm)
	}
	ask("an order", with(rest, restsIn(0, 1, 250)), []int{250, 0}, 0, 0)
	ask("a throw", with(throw, restsIn(0, 1, 250)), []int{250, 0}, 0, 0)
	// With two records the throw is done, and let go of.
	if calm := askRestBehind(t, with(throw, restsIn(0, 1, 248)), 2); len(calm.Stores[0].Recs) != 250 || len(calm.Stores[1].Recs) != 1 {
		t.Errorf("there is %+v", calm)
	}
	ask("a throw that is not let go of", with(throw, restsIn(0, 1, 249)), []int{250, 1}, 1, 4)
	ask("a throw that does not come in", with(throw, restsIn(1, 3, 250)), []int{1, 250}, 1, 0)
	if calm := askRestBehind(t, with(throw, restsIn(1, 3, 249)), 2); len(calm.Stores[0].Recs) != 2 || len(calm.Stores[1].Recs) != 250 {
		t.Errorf("there is %+v", calm)
	}
	// An order that was done, and not told, is told without a record.
	told := turnedWorld(with(rest, restsIn(0, 1, 249)), func(w *impl.WldWorld) { w.Stores[0].Recs = append(w.Stores[0].Recs, restOf(2, 1)) })
	if calm := askRestBehind(t, told, 1); len(calm.Notes) != 1 {
		t.Errorf("there is %+v", calm)
	}
	// Full logs, and nothing to be done.
	askRestBehind(t, turnedWorld(impl.WldNew(m, list, 2), restsIn(0, 1, 250), restsIn(1, 3, 250)), 1)
}
