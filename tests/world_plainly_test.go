package tests

import (
	"fmt"
	"slices"

	"loop.example/landmarch/impl"
)

// Chapter 13 in the document's words, with its numbers written out: what the program is held against.

// newWorldPlainly is of a map and walkers that are ok, and 1 to 3 servers.
func newWorldPlainly(m impl.PlcMap, list []impl.WlkWalker, servers int) impl.WldWorld {
	w := impl.WldWorld{Map: m, Book: newBookPlainly(m, list)}
	for range servers {
		w.Servers = append(w.Servers, impl.SrvServer{Up: true})
	}
	for cell := range m.Cells {
		base := bareCell(cell)
		for _, walker := range list {
			if cellsOfPlaces(m)[walker.At] == cell {
				base.Walkers = append(base.Walkers, walker)
			}
		}
		w.Stores = append(w.Stores, impl.StoStore{Base: base})
		w.Table.Servers = append(w.Table.Servers, -1)
		w.Table.Ages = append(w.Table.Ages, 0)
	}
	return w
}

// worldOkPlainly is of any world.
func worldOkPlainly(w impl.WldWorld) bool {
	m := w.Map
	if m.Cells < 2 || m.Cells > 4 || m.Width < 2 || m.Width > 8 || !tableOkPlainly(m, w.Table, len(w.Servers)) {
		return false
	}
	if !storesOkPlainly(m, w.Stores) || !bookOkPlainly(m, w.Book) {
		return false
	}
	for cell, s := range w.Stores {
		if s.Age > w.Table.Ages[cell] {
			return false
		}
	}
	for _, s := range w.Servers {
		if !serverOkPlainly(m, s) {
			return false
		}
		for _, h := range s.Holds {
			if h.Age > w.Table.Ages[h.State.Cell] {
				return false
			}
		}
	}
	return netOkPlainly(w) && notesOkPlainly(w.Notes)
}

// netOkPlainly is of a world with a map and a table that are ok.
func netOkPlainly(w impl.WldWorld) bool {
	for _, x := range w.Net {
		if !messageOkPlainly(w.Map, len(w.Servers), x) || x.Kind == 1 && x.N > w.Table.Ages[x.Cell] {
			return false
		}
	}
	return len(w.Net) <= 40
}

func notesOkPlainly(notes []impl.WldNote) bool {
	for _, n := range notes {
		if n.Who < 1 || n.Who > 9 || n.Seq < 1 || n.Seq > 900 || n.Code < 1 || n.Code > 9 {
			return false
		}
	}
	return len(notes) <= 150
}

// worldCountPlainly is of a world that is ok.
func worldCountPlainly(w impl.WldWorld, who, seq int) int {
	count := 0
	for _, s := range w.Stores {
		count += countPlainly(s.Recs, who, seq)
	}
	return count
}

// sendPlainly is messages with one that is sent behind them.
func sendPlainly(net []impl.MsgMsg, x impl.MsgMsg) []impl.MsgMsg {
	if len(net) == 40 {
		return net
	}
	return append(net, x)
}

// stepPlainly is of a world that is ok.
func stepPlainly(w impl.WldWorld, e impl.WldEvent) impl.WldWorld {
	w = cloneWorld(w)
	message := e.At >= 0 && e.At < len(w.Net)
	server := e.At >= 0 && e.At < len(w.Servers)
	switch {
	case e.Kind == 1:
		table, given := grantPlainly(w.Map, w.Table, len(w.Servers), e.At, e.To)
		if given {
			w.Table = table
			w.Net = sendPlainly(w.Net, impl.MsgMsg{Kind: 1, To: e.To, Cell: e.At, N: table.Ages[e.At]})
		}
	case e.Kind == 2:
		w.Book, _ = takePlainly(w.Book, impl.OrdOrder{Who: e.At, Kind: e.What, To: e.To, N: e.N})
	case e.Kind == 3:
		if x, said := sayPlainly(w.Book, w.Table, e.At); said {
			w.Net = sendPlainly(w.Net, x)
		}
	case e.Kind == 4 && message:
		x := w.Net[e.At]
		w.Net = slices.Delete(w.Net, e.At, e.At+1)
		return bringPlainly(w, x)
	case e.Kind == 5 && message:
		w.Net = slices.Delete(w.Net, e.At, e.At+1)
	case e.Kind == 6 && message:
		w.Net = sendPlainly(w.Net, w.Net[e.At])
	case e.Kind == 7 && server:
		for _, x := range tickPlainly(hearingOf(w, e.At), e.To) {
			w.Net = sendPlainly(w.Net, x)
		}
	case e.Kind == 8 && server:
		w.Servers[e.At] = impl.SrvServer{}
	case e.Kind == 9 && server && !w.Servers[e.At].Up:
		w.Servers[e.At] = impl.SrvServer{Up: true}
	}
	return w
}

// bringPlainly is of a world that is ok, and a message that was taken out of it.
func bringPlainly(w impl.WldWorld, x impl.MsgMsg) impl.WldWorld {
	if x.To == -1 {
		book, done := gateHearPlainly(w.Map, w.Book, x)
		w.Book = book
		if done && len(w.Notes) < 150 {
			w.Notes = append(w.Notes, impl.WldNote{Who: x.Order.Who, Seq: x.Order.Seq, Code: x.N})
		}
		return w
	}
	got := hearPlainly(hearingOf(w, x.To), x)
	w.Servers[x.To], w.Stores = got.server, got.stores
	for _, word := range got.said {
		w.Net = sendPlainly(w.Net, word)
	}
	return w
}

// hearingOf is one server of a world, with what it is asked with.
func hearingOf(w impl.WldWorld, server int) hearing {
	return hearing{m: w.Map, server: w.Servers[server], stores: w.Stores, table: w.Table, servers: len(w.Servers)}
}

// sameWorld holds worlds against each other; the empty list and the nil list are the same.
func sameWorld(a, b impl.WldWorld) bool {
	return a.Map == b.Map && slices.EqualFunc(a.Servers, b.Servers, sameServer) && sameStores(a.Stores, b.Stores) &&
		sameTable(a.Table, b.Table) && sameBook(a.Book, b.Book) &&
		slices.Equal(a.Net, b.Net) && slices.Equal(a.Notes, b.Notes)
}

// worldsApart is in what worlds are not the same.
func worldsApart(got, want impl.WldWorld) string {
	apart := ""
	tell := func(name string, same bool, a, b any) {
		if !same {
			apart += fmt.Sprintf("\n%s: %+v, not %+v", name, a, b)
		}
	}
	tell("the map", got.Map == want.Map, got.Map, want.Map)
	tell("the servers", slices.EqualFunc(got.Servers, want.Servers, sameServer), got.Servers, want.Servers)
	tell("the stores", sameStores(got.Stores, want.Stores), got.Stores, want.Stores)
	tell("the table", sameTable(got.Table, want.Table), got.Table, want.Table)
	tell("the book", sameBook(got.Book, want.Book), got.Book, want.Book)
	tell("the messages", slices.Equal(got.Net, want.Net), got.Net, want.Net)
	tell("the notes", slices.Equal(got.Notes, want.Notes), got.Notes, want.Notes)
	return apart
}

// isNoWorld is whether a world is the zero value, all lists empty.
func isNoWorld(w impl.WldWorld) bool {
	return sameWorld(w, impl.WldWorld{})
}

// cloneWorld is the same world in new memory.
func cloneWorld(w impl.WldWorld) impl.WldWorld {
	own := impl.WldWorld{
		Map:    w.Map,
		Stores: cloneStores(w.Stores),
		Table:  cloneTable(w.Table),
		Book:   cloneBook(w.Book),
		Net:    slices.Clone(w.Net),
		Notes:  slices.Clone(w.Notes),
	}
	for _, s := range w.Servers {
		own.Servers = append(own.Servers, cloneServer(s))
	}
	return own
}
