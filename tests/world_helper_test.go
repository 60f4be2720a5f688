package tests

import (
	"math/rand"
	"slices"
	"testing"

	"loop.example/landmarch/impl"
)

// Things that happen.
func grants(cell, server int) impl.WldEvent {
	return impl.WldEvent{Kind: impl.WldGrant, At: cell, To: server}
}

// asks is of an order, but for its Seq.
func asks(o impl.OrdOrder) impl.WldEvent {
	return impl.WldEvent{Kind: impl.WldAsk, At: o.Who, What: o.Kind, To: o.To, N: o.N}
}

func says(who int) impl.WldEvent     { return impl.WldEvent{Kind: impl.WldSay, At: who} }
func brings(at int) impl.WldEvent    { return impl.WldEvent{Kind: impl.WldBring, At: at} }
func loses(at int) impl.WldEvent     { return impl.WldEvent{Kind: impl.WldLose, At: at} }
func doubles(at int) impl.WldEvent   { return impl.WldEvent{Kind: impl.WldTwice, At: at} }
func falls(server int) impl.WldEvent { return impl.WldEvent{Kind: impl.WldFall, At: server} }
func rises(server int) impl.WldEvent { return impl.WldEvent{Kind: impl.WldRise, At: server} }

func ticks(server, cell int) impl.WldEvent {
	return impl.WldEvent{Kind: impl.WldTick, At: server, To: cell}
}

// worldTurn is what turns in a world.
type worldTurn = func(*impl.WldWorld)

// turnedWorld is the world with something turned in it.
func turnedWorld(w impl.WldWorld, turns ...worldTurn) impl.WldWorld {
	w = cloneWorld(w)
	for _, turn := range turns {
		turn(&w)
	}
	return w
}

// standingWorld is a world that is ok, of standing as its server 1. The server 0 holds the cell 0, and held the cell 1 in an earlier age; the cell 2 is granted to it. There is one message of each Kind on its way, of which each turns something, and behind them one for who held the cell 1.
func standingWorld() impl.WldWorld {
	h := standing()
	h.stores[0] = impl.StoStore{Age: 1, Base: turnedCell(bareCell(0), func(c *impl.CllCell) {
		c.Walkers = []impl.WlkWalker{{Id: 5, At: 3, Coins: 3}, {Id: 8, At: 2, Seq: 900, Last: 1}}
		c.Next[1], c.Ins[1] = 1, 3
	})}
	early, _ := foldPlainly(h.m, h.stores[1].Base, h.stores[1].Recs[:1])
	first := impl.SrvServer{Up: true, Holds: []impl.HldHolder{
		{Age: 1, State: impl.StoState(h.m, h.stores[0])},
		{Age: 4, Count: 1, State: early},
	}}
	step := impl.OrdOrder{Who: 1, Seq: 4, Kind: impl.OrdStep, To: impl.PlcLeft}
	drop := impl.OrdOrder{Who: 6, Seq: 3, Kind: impl.OrdDrop, N: 1}
	rest := impl.OrdOrder{Who: 3, Seq: 2, Kind: impl.OrdRest}
	return impl.WldWorld{
		Map:     h.m,
		Servers: []impl.SrvServer{first, h.server},
		Stores:  h.stores,
		Table:   impl.ArbTable{Servers: []int{0, 1, 0}, Ages: []int{1, 5, 3}},
		Book: impl.GwyBook{Rows: []impl.GwyRow{
			{Who: 1, Cell: 1, Busy: true, Order: step, Seq: 3, Code: impl.CodeFar},
			{Who: 2, Cell: 1, Seq: 6},
			{Who: 3, Cell: 1, Busy: true, Order: rest, Seq: 1, Code: 1},
			{Who: 5, Cell: 0},
			{Who: 6, Cell: 2, Busy: true, Order: drop, Seq: 2, Code: 1},
			{Who: 8, Cell: 0, Seq: 900, Code: 1},
		}},
		Net: []impl.MsgMsg{
			grantOf(0, 2, 3),
			askOf(1, 1, step),
			toldOf(1, drop, impl.CodePoor),
			awayOf(1, rest),
			parcelOf(1, 1, impl.PlcLeft, impl.PclParcel{N: 1, Kind: impl.PclCoins, Coins: 3}),
			gotOf(1, 1, impl.PlcLeft, 4),
			showOf(1, 1, impl.PlcLeft, impl.GstGhost{From: 0, Count: 5, Walker: impl.WlkWalker{Id: 5, At: 3, Coins: 2}}),
			askOf(0, 1, step),
		},
		Notes: []impl.WldNote{{Who: 6, Seq: 1, Code: 4}, {Who: 3, Seq: 1, Code: 1}, {Who: 6, Seq: 2, Code: 1}},
	}
}

// netOf lets so many messages be on their way, all of them ok: those that are there, again and again.
func netOf(count int) worldTurn {
	return func(w *impl.WldWorld) {
		first := slices.Clone(w.Net)
		w.Net = nil
		for i := range count {
			w.Net = append(w.Net, first[i%len(first)])
		}
	}
}

// noteOf is one of many notes, no two of them alike.
func noteOf(i int) impl.WldNote {
	return impl.WldNote{Who: 1 + i%9, Seq: 1 + i, Code: 1 + i%7}
}

// notesOf lets there be so many notes.
func notesOf(count int) worldTurn {
	return func(w *impl.WldWorld) {
		w.Notes = nil
		for i := range count {
			w.Notes = append(w.Notes, noteOf(i))
		}
	}
}

// someWorld is a world that is ok, of any servers, stores, table, book and messages that go together: not one to which WldNew needs to lead.
func someWorld(r *rand.Rand, m impl.PlcMap, size int) impl.WldWorld {
	h := someHearing(r, m, size)
	w := impl.WldWorld{Map: m, Stores: h.stores, Table: h.table, Book: someBook(r, m)}
	for cell := range w.Stores {
		w.Stores[cell].Age = min(w.Stores[cell].Age, w.Table.Ages[cell])
	}
	for range h.servers {
		s := someServer(r, m, w.Stores)
		for i, hold := range s.Holds {
			s.Holds[i].Age = min(hold.Age, w.Table.Ages[hold.State.Cell])
		}
		s.Holds = slices.DeleteFunc(s.Holds, func(hold impl.HldHolder) bool { return hold.Age == 0 })
		w.Servers = append(w.Servers, s)
	}
	pool := answersAround(r, m, w.Book)
	for server := range w.Servers {
		pool = append(pool, messagesAround(r, hearingOf(w, server))...)
	}
	pool = slices.DeleteFunc(pool, func(x impl.MsgMsg) bool { return x.Kind == 1 && x.N > w.Table.Ages[x.Cell] })
	for range oneOf(r, 0, 1, 2, 5, 20, 37, 39, 40) {
		w.Net = append(w.Net, pool[r.Intn(len(pool))])
	}
	notesOf(oneOf(r, 0, 1, 3, 149, 150))(&w)
	return w
}

// eachWorld is so many worlds for each of some maps.
func eachWorld(t *testing.T, seed int64, count, size int, each func(r *rand.Rand, w impl.WldWorld)) {
	t.Helper()
	r := rand.New(rand.NewSource(seed))
	for _, m := range ghostMaps {
		for range count {
			w := someWorld(r, m, size)
			if !worldOkPlainly(w) {
				t.Fatalf("the test's own %+v is not ok", w)
			}
			each(r, w)
		}
	}
}

// eventsAround is things that may happen in a world: of each Kind at each message, server, cell and walker, and one past them on both sides.
func eventsAround(r *rand.Rand, w impl.WldWorld) []impl.WldEvent {
	var list []impl.WldEvent
	for cell := -1; cell <= w.Map.Cells; cell++ {
		for server := -1; server <= len(w.Servers); server++ {
			list = append(list, grants(cell, server), ticks(server, cell))
		}
	}
	for who := 0; who <= 10; who++ {
		deeds := deedsOf(max(1, min(who, 9)), 1)
		o := deeds[r.Intn(len(deeds))]
		o.Who = who
		list = append(list, asks(o), asks(impl.OrdOrder{Who: who, Kind: 7}), says(who))
	}
	for at := -1; at <= len(w.Net); at++ {
		list = append(list, brings(at), loses(at), doubles(at))
	}
	for server := -1; server <= len(w.Servers); server++ {
		list = append(list, falls(server), rises(server))
	}
	return list
}

// kindsOfNone is numbers that are no Kind.
var kindsOfNone = append([]int{-1, 0, 10, 11}, farNumbers...)
