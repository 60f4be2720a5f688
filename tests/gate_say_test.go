package tests

import (
	"math/rand"
	"testing"

	"loop.example/landmarch/impl"
)

// askSaid asks that GwySay answers what the words say.
func askSaid(t *testing.T, m impl.PlcMap, b impl.GwyBook, table impl.ArbTable, servers, who int) (impl.MsgMsg, bool) {
	t.Helper()
	got, ok := impl.GwySay(m, b, table, servers, who)
	want, wantOk := sayPlainly(b, table, who)
	if ok != wantOk || got != want {
		t.Fatalf("GwySay(%v, %+v, %+v, %d, %d) is %+v, %v, not %+v, %v", m, b, table, servers, who, got, ok, want, wantOk)
	}
	if ok && !impl.MsgOk(m, servers, got) {
		t.Fatalf("GwySay(%v, %+v, %+v, %d, %d) is %+v, which is not ok", m, b, table, servers, who, got)
	}
	return got, ok
}

func TestP31OrdersAreSaid(t *testing.T) {
	said := map[bool]int{}
	eachBook(t, 291, 40, func(r *rand.Rand, m impl.PlcMap, b impl.GwyBook) {
		for servers := 1; servers <= 3; servers++ {
			table := someTable(r, m, servers)
			for _, who := range numbersAround(1, 9) {
				_, ok := askSaid(t, m, b, table, servers, who)
				said[ok]++
			}
		}
	})
	if said[true] < 1000 || said[false] < 1000 {
		t.Errorf("so many were said: %v", said)
	}
}

// Every order, in every cell, to every server, with the table of that cell alone.
func TestP31EveryOrderInEveryCell(t *testing.T) {
	for _, m := range ghostMaps {
		for cell := range m.Cells {
			for server := -1; server < 3; server++ {
				table := impl.ArbNew(m)
				if server >= 0 {
					table.Servers[cell], table.Ages[cell] = server, 1
				}
				for _, o := range append(deedsOf(1, 1), deedsOf(9, 900)...) {
					b := impl.GwyBook{Rows: []impl.GwyRow{busyWith(cell, o)}}
					got, ok := askSaid(t, m, b, table, 3, o.Who)
					if ok != (server >= 0) || ok && got != askOf(server, cell, o) {
						t.Fatalf("of %+v in the cell %d, which %d has, %+v is said", o, cell, server, got)
					}
				}
			}
		}
	}
}

func TestP31WhatIsSaidOfWhom(t *testing.T) {
	b := gateBook()
	cases := []struct {
		why  string
		who  int
		want impl.MsgMsg
	}{
		{"Busy, in the first cell", 2, askOf(1, 0, b.Rows[0].Order)},
		{"not Busy", 4, impl.MsgMsg{}},
		{"Busy, in the last cell", 7, askOf(0, 2, b.Rows[2].Order)},
		{"not Busy, at the last number", 9, impl.MsgMsg{}},
		{"between two rows", 3, impl.MsgMsg{}},
		{"ahead of all rows", 1, impl.MsgMsg{}},
		{"no walker", 0, impl.MsgMsg{}},
		{"past the walkers", 10, impl.MsgMsg{}},
		{"below the walkers", -1, impl.MsgMsg{}},
	}
	for _, c := range cases {
		got, ok := askSaid(t, messagesMap, b, gateTable(), 2, c.who)
		if got != c.want || ok != (c.want != impl.MsgMsg{}) {
			t.Errorf("%s: of %d it says %+v, %v", c.why, c.who, got, ok)
		}
	}
	for i := range b.Rows {
		b.Rows[i].Cell = 1
	}
	for who := range 11 {
		if got, ok := askSaid(t, messagesMap, b, gateTable(), 2, who); ok {
			t.Errorf("nobody has the cell, and of %d it says %+v", who, got)
		}
	}
	if got, ok := askSaid(t, messagesMap, impl.GwyBook{}, gateTable(), 2, 1); ok {
		t.Errorf("of nobody it says %+v", got)
	}
}

// The order under way is said again and again, and in the row's cell alone, wherever that turns to.
func TestP31TheCellTurnsWithTheRow(t *testing.T) {
	table := impl.ArbTable{Servers: []int{2, -1, 0}, Ages: []int{1, 0, 1}}
	b := gateBook()
	o := b.Rows[2].Order
	for _, cell := range []int{2, 0, 1, 2, 0} {
		for range 2 {
			got, ok := askSaid(t, messagesMap, b, table, 3, 7)
			if ok != (cell != 1) || ok && got != askOf(table.Servers[cell], cell, o) {
				t.Errorf("in the cell %d it says %+v, %v", cell, got, ok)
			}
		}
		b, _ = impl.GwyHear(messagesMap, b, 3, awayOf(cell, o))
	}
	b, _ = impl.GwyHear(messagesMap, b, 3, toldOf(2, o, 1))
	if got, ok := askSaid(t, messagesMap, b, table, 3, 7); ok {
		t.Errorf("of an order that was told it says %+v", got)
	}
	b, _ = impl.GwyAsk(messagesMap, b, 7, impl.OrdRest, 0, 0)
	next := impl.OrdOrder{Who: 7, Seq: 2, Kind: impl.OrdRest}
	if got, ok := askSaid(t, messagesMap, b, table, 3, 7); !ok || got != askOf(0, 2, next) {
		t.Errorf("of the next order it says %+v", got)
	}
}

func TestP31TablesThatAreNotOk(t *testing.T) {
	askNone := func(why string, m impl.PlcMap, table impl.ArbTable, servers int) {
		t.Helper()
		for who := 0; who <= 10; who++ {
			if got, ok := impl.GwySay(m, gateBook(), table, servers, who); ok || got != (impl.MsgMsg{}) {
				t.Errorf("%s: GwySay(%v, %+v, %d, %d) is %+v, %v", why, m, table, servers, who, got, ok)
			}
		}
	}
	for why, table := range wrongTables() {
		askNone(why, messagesMap, table, 2)
	}
	for _, servers := range append([]int{-1, 0, 1, 4, 5}, farNumbers...) {
		askNone("so many servers", messagesMap, gateTable(), servers)
	}
	// Only the first server has something, so that any number of servers would do but for its bounds.
	table := impl.ArbTable{Servers: []int{0, 0, 0}, Ages: []int{1, 1, 1}}
	for _, servers := range append([]int{-1, 0, 4, 5}, farNumbers...) {
		askNone("so many servers", messagesMap, table, servers)
	}
	for servers := 1; servers <= 3; servers++ {
		if _, ok := askSaid(t, messagesMap, gateBook(), table, servers, 2); !ok {
			t.Errorf("of %d servers the first one is told nothing", servers)
		}
	}
	// A table of a greater map is none of this one, though it has the cell.
	askNone("another table", messagesMap, impl.ArbTable{Servers: []int{0, 0, 0, 0}, Ages: []int{1, 1, 1, 1}}, 2)
	askNone("another map", impl.PlcMap{Cells: 4, Width: 4}, table, 2)
}
