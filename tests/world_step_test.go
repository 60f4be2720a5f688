package tests

import (
	"math/rand"
	"slices"
	"testing"

	"loop.example/landmarch/impl"
)

// askStep asks that a thing happens in a world that is ok as the words say, and what the promises say of it.
func askStep(t *testing.T, w impl.WldWorld, e impl.WldEvent) impl.WldWorld {
	t.Helper()
	got, want := impl.WldStep(w, e), stepPlainly(w, e)
	if !sameWorld(got, want) {
		t.Fatalf("WldStep(%+v, %+v) is not so: %s", w, e, worldsApart(got, want))
	}
	askWorldStillOk(t, w, e, got)
	askWrittenStays(t, w, e, got)
	switch e.Kind {
	case impl.WldGrant:
		askGrantTurns(t, w, e, got)
	case impl.WldAsk, impl.WldSay:
		askGateTurns(t, w, e, got)
	case impl.WldBring:
		askBrought(t, w, e, got)
	case impl.WldLose, impl.WldTwice:
		askNetTurns(t, w, e, got)
	case impl.WldFall:
		askFallen(t, w, e, got)
	}
	return got
}

// askWorldStillOk asks for P13.
func askWorldStillOk(t *testing.T, w impl.WldWorld, e impl.WldEvent, got impl.WldWorld) {
	t.Helper()
	if !impl.WldOk(got) || got.Map != w.Map || len(got.Servers) != len(w.Servers) {
		t.Fatalf("behind %+v in %+v there is %+v", e, w, got)
	}
}

// askWrittenStays asks for P14.
func askWrittenStays(t *testing.T, w impl.WldWorld, e impl.WldEvent, got impl.WldWorld) {
	t.Helper()
	more := 0
	for cell, after := range got.Stores {
		before := w.Stores[cell]
		count := len(before.Recs)
		if len(after.Recs) < count || !slices.Equal(after.Recs[:count], before.Recs) || !sameCell(after.Base, before.Base) {
			t.Fatalf("behind %+v the log of the cell %d is %+v, and was %+v", e, cell, after, before)
		}
		more += len(after.Recs) - count
		if after.Age < before.Age || got.Table.Ages[cell] < w.Table.Ages[cell] {
			t.Fatalf("behind %+v an age goes back: %+v, %+v", e, after, got.Table)
		}
	}
	if more > 1 {
		t.Fatalf("behind %+v there are %d records more", e, more)
	}
	if len(got.Notes) < len(w.Notes) || !slices.Equal(got.Notes[:len(w.Notes)], w.Notes) {
		t.Fatalf("behind %+v the notes are %+v, and were %+v", e, got.Notes, w.Notes)
	}
}

// askAllBut asks that nothing has turned but what the turn lets be as it was.
func askAllBut(t *testing.T, w impl.WldWorld, e impl.WldEvent, got impl.WldWorld, turn worldTurn) {
	t.Helper()
	got = turnedWorld(got, turn)
	if !sameWorld(got, w) {
		t.Fatalf("%+v turns more than it should: %s", e, worldsApart(got, w))
	}
}

// askOneMore asks that the messages are those that were there, with one behind them, if there was room.
func askOneMore(t *testing.T, w impl.WldWorld, e impl.WldEvent, got impl.WldWorld, x impl.MsgMsg) {
	t.Helper()
	want := slices.Clone(w.Net)
	if len(w.Net) < 40 {
		want = append(want, x)
	}
	if !slices.Equal(got.Net, want) {
		t.Fatalf("behind %+v the messages are\n%+v, not\n%+v", e, got.Net, want)
	}
}

// askGrantTurns asks for P19.
func askGrantTurns(t *testing.T, w impl.WldWorld, e impl.WldEvent, got impl.WldWorld) {
	t.Helper()
	askAllBut(t, w, e, got, func(own *impl.WldWorld) { own.Table, own.Net = w.Table, w.Net })
	table, given := impl.ArbGrant(w.Map, w.Table, len(w.Servers), e.At, e.To)
	if !sameTable(got.Table, table) {
		t.Fatalf("behind %+v the table is %+v, not %+v", e, got.Table, table)
	}
	if !given {
		askAllBut(t, w, e, got, func(*impl.WldWorld) {})
		return
	}
	askOneMore(t, w, e, got, impl.MsgMsg{Kind: impl.MsgGrant, To: e.To, Cell: e.At, N: w.Table.Ages[e.At] + 1})
}

// askGateTurns asks for P20.
func askGateTurns(t *testing.T, w impl.WldWorld, e impl.WldEvent, got impl.WldWorld) {
	t.Helper()
	if e.Kind == impl.WldAsk {
		askAllBut(t, w, e, got, func(own *impl.WldWorld) { own.Book = w.Book })
		return
	}
	askAllBut(t, w, e, got, func(own *impl.WldWorld) { own.Net = w.Net })
	if x, said := impl.GwySay(w.Map, w.Book, w.Table, len(w.Servers), e.At); said {
		askOneMore(t, w, e, got, x)
	} else if !slices.Equal(got.Net, w.Net) {
		t.Fatalf("behind %+v the messages are %+v, and were %+v", e, got.Net, w.Net)
	}
}

// askBrought asks for P17, and that a message is brought to one alone.
func askBrought(t *testing.T, w impl.WldWorld, e impl.WldEvent, got impl.WldWorld) {
	t.Helper()
	if e.At < 0 || e.At >= len(w.Net) {
		askAllBut(t, w, e, got, func(*impl.WldWorld) {})
		return
	}
	x := w.Net[e.At]
	others := slices.Concat(w.Net[:e.At], w.Net[e.At+1:])
	if x.To == impl.MsgGate {
		askAllBut(t, w, e, got, func(own *impl.WldWorld) { own.Book, own.Net, own.Notes = w.Book, w.Net, w.Notes })
		if !slices.Equal(got.Net, others) {
			t.Fatalf("behind %+v the messages are %+v, not %+v", e, got.Net, others)
		}
		return
	}
	if !w.Servers[x.To].Up {
		askAllBut(t, w, e, got, func(own *impl.WldWorld) { own.Net = w.Net })
		if !slices.Equal(got.Net, others) {
			t.Fatalf("behind %+v, for who is down, the messages are %+v, not %+v", e, got.Net, others)
		}
		return
	}
	askAllBut(t, w, e, got, func(own *impl.WldWorld) {
		own.Servers[x.To], own.Stores[x.Cell], own.Net = w.Servers[x.To], w.Stores[x.Cell], w.Net
	})
}

// askNetTurns asks for P18.
func askNetTurns(t *testing.T, w impl.WldWorld, e impl.WldEvent, got impl.WldWorld) {
	t.Helper()
	askAllBut(t, w, e, got, func(own *impl.WldWorld) { own.Net = w.Net })
	switch {
	case e.At < 0 || e.At >= len(w.Net):
		askAllBut(t, w, e, got, func(*impl.WldWorld) {})
	case e.Kind == impl.WldTwice:
		askOneMore(t, w, e, got, w.Net[e.At])
	case !slices.Equal(got.Net, slices.Concat(w.Net[:e.At], w.Net[e.At+1:])):
		t.Fatalf("behind %+v the messages are %+v, and were %+v", e, got.Net, w.Net)
	}
}

// askFallen asks for P16.
func askFallen(t *testing.T, w impl.WldWorld, e impl.WldEvent, got impl.WldWorld) {
	t.Helper()
	again := impl.WldStep(got, rises(e.At))
	if e.At < 0 || e.At >= len(w.Servers) {
		askAllBut(t, w, e, got, func(*impl.WldWorld) {})
		askAllBut(t, w, e, again, func(*impl.WldWorld) {})
		return
	}
	for _, after := range []impl.WldWorld{got, again} {
		s := after.Servers[e.At]
		if len(s.Holds) > 0 || len(s.Ghosts) > 0 || s.Up != sameWorld(after, again) {
			t.Fatalf("behind %+v the server is %+v", e, s)
		}
		askAllBut(t, w, e, after, func(own *impl.WldWorld) { own.Servers[e.At] = w.Servers[e.At] })
	}
}

func TestP13ToP20WhatHappensInAnyWorld(t *testing.T) {
	turned := map[int]int{}
	eachWorld(t, 331, 12, 6, func(r *rand.Rand, w impl.WldWorld) {
		for _, e := range eventsAround(r, w) {
			if got := askStep(t, w, e); !sameWorld(got, w) {
				turned[e.Kind]++
			}
		}
	})
	for kind := impl.WldGrant; kind <= impl.WldFall; kind++ {
		if turned[kind] < 50 {
			t.Errorf("so many turned something, by their Kind: %v", turned)
		}
	}
	if turned[impl.WldRise] < 3 {
		t.Errorf("so many turned something, by their Kind: %v", turned)
	}
}

// One thing behind the other, in worlds to which WldNew need not lead.
func TestP13P14OneBehindTheOther(t *testing.T) {
	eachWorld(t, 332, 8, 4, func(r *rand.Rand, w impl.WldWorld) {
		for range 60 {
			events := eventsAround(r, w)
			w = askStep(t, w, events[r.Intn(len(events))])
		}
	})
}

// stepCase is what happens, in which world, and what has turned behind it.
type stepCase struct {
	why   string
	in    impl.WldWorld
	e     impl.WldEvent
	turns []worldTurn
}

// askStepCases asks for each case, by the words as well.
func askStepCases(t *testing.T, cases []stepCase) {
	t.Helper()
	for _, c := range cases {
		if !worldOkPlainly(c.in) {
			t.Fatalf("%s: the test's own %+v is not ok", c.why, c.in)
		}
		got, want := askStep(t, c.in, c.e), turnedWorld(c.in, c.turns...)
		if !sameWorld(got, want) {
			t.Errorf("%s: behind %+v it is not so: %s", c.why, c.e, worldsApart(got, want))
		}
	}
}

// worldWith is the world of the cases with something turned in it.
func worldWith(turns ...worldTurn) impl.WldWorld {
	return turnedWorld(standingWorld(), turns...)
}

// takes lets the message at a place be taken out.
func takes(at int) worldTurn {
	return func(w *impl.WldWorld) { w.Net = slices.Delete(w.Net, at, at+1) }
}

// sends lets messages come behind all others.
func sends(messages ...impl.MsgMsg) worldTurn {
	return func(w *impl.WldWorld) { w.Net = append(w.Net, messages...) }
}

// writes lets a record be written by a server that holds the cell.
func writes(server, cell int, r impl.LogRec) worldTurn {
	return func(w *impl.WldWorld) {
		h := hearingOf(*w, server)
		wrote(cell, r)(&h)
	}
}

// serverDown lets a server be down.
func serverDown(server int) worldTurn {
	return func(w *impl.WldWorld) { w.Servers[server] = impl.SrvServer{} }
}

// tableAge lets the table have an age of a cell.
func tableAge(cell, age int) worldTurn {
	return func(w *impl.WldWorld) { w.Table.Ages[cell] = age }
}

func TestP13MessagesAreBrought(t *testing.T) {
	w := standingWorld()
	one := func(turns ...worldTurn) []worldTurn { return turns }
	order := func(at int) impl.OrdOrder { return w.Net[at].Order }
	ended := func(row int, code int) worldTurn {
		return func(w *impl.WldWorld) {
			r := &w.Book.Rows[row]
			*r = impl.GwyRow{Who: r.Who, Cell: 1, Seq: r.Seq + 1, Code: code}
		}
	}
	noted := func(n impl.WldNote) worldTurn {
		return func(w *impl.WldWorld) { w.Notes = append(w.Notes, n) }
	}
	opened := func(w *impl.WldWorld) {
		w.Stores[2].Age = 3
		w.Servers[0].Holds = append(w.Servers[0].Holds, impl.HldHolder{Age: 3, State: impl.StoState(w.Map, w.Stores[2])})
	}
	lost := func(w *impl.WldWorld) { w.Servers[0].Holds = w.Servers[0].Holds[:1] }
	shown := w.Net[6].Ghost
	askStepCases(t, []stepCase{
		{"a grant", w, brings(0), one(takes(0), opened)},
		{"a grant for who is down", worldWith(serverDown(0)), brings(0), one(takes(0))},
		{"an order", w, brings(1), one(takes(1), writes(1, 1, didOf(order(1))), sends(toldOf(1, order(1), impl.CodeDone)))},
		{"an order for who is down", worldWith(serverDown(1)), brings(1), one(takes(1))},
		{"what was told", w, brings(2), one(takes(2), ended(4, impl.CodePoor), noted(impl.WldNote{Who: 6, Seq: 3, Code: impl.CodePoor}))},
		{"what was told, all servers down", worldWith(serverDown(0), serverDown(1)), brings(2), one(takes(2), ended(4, impl.CodePoor), noted(impl.WldNote{Who: 6, Seq: 3, Code: impl.CodePoor}))},
		{"who is away", w, brings(3), one(takes(3), func(w *impl.WldWorld) { w.Book.Rows[2].Cell = 2 })},
		{"a parcel", w, brings(4), one(takes(4), writes(1, 1, cameFrom(0, w.Net[4].Parcel)), sends(gotOf(0, 0, 1, 2)))},
		{"a parcel for who is down", worldWith(serverDown(1)), brings(4), one(takes(4))},
		{"that they have come", w, brings(5), one(takes(5), writes(1, 1, ackOf(0, 4)))},
		{"that they have come, for who is down", worldWith(serverDown(1)), brings(5), one(takes(5))},
		{"a ghost", w, brings(6), one(takes(6), func(w *impl.WldWorld) { w.Servers[1].Ghosts[0] = shown })},
		{"a ghost for who is down", worldWith(serverDown(1)), brings(6), one(takes(6))},
		{"an order for who held the cell", w, brings(7), one(takes(7), lost)},
		{"a told once more", worldWith(takes(2), ended(4, 3), sends(w.Net[2])), brings(7), one(takes(7))},
		{"one before the first one", w, brings(-1), nil},
		{"one behind the last one", w, brings(8), nil},
		{"none", worldWith(netOf(0)), brings(0), nil},
		{"none, one before", worldWith(netOf(0)), brings(-1), nil},
		{"the only one", worldWith(netOf(1)), brings(0), one(netOf(0), opened)},
		{"behind the only one", worldWith(netOf(1)), brings(1), nil},
		{"the other fields are not asked", w, impl.WldEvent{Kind: impl.WldBring, At: 0, What: 9, To: 7, N: -4}, one(takes(0), opened)},
	})
}
