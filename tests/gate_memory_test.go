package tests

import (
	"math/rand"
	"slices"
	"testing"

	"loop.example/landmarch/impl"
)

// spareRow is what lies in spare room and in memory that is written over: no two alike, and none of them ok.
func spareRow(i int) impl.GwyRow {
	return impl.GwyRow{Who: 70 + i, Cell: -85, Busy: true, Order: impl.OrdOrder{Who: -86}, Seq: -87, Code: -88}
}

// askBookMemory asks that a call neither writes into its book, spare room included, nor answers memory of it or of another answer.
func askBookMemory(t *testing.T, name string, b impl.GwyBook, call func(impl.GwyBook) impl.GwyBook) {
	t.Helper()
	askMemory(t, name, b.Rows, spareRow, func(rows []impl.GwyRow) []impl.GwyRow {
		return call(impl.GwyBook{Rows: rows}).Rows
	})
	short, _ := withRoom(b.Rows, spareRow)
	if got, plain := call(impl.GwyBook{Rows: short}), call(b); !sameBook(got, plain) {
		t.Fatalf("%s of %+v hangs on spare room: %+v, not %+v", name, b, got, plain)
	}
}

// askGateMemory asks that of all functions that take a book.
func askGateMemory(t *testing.T, m impl.PlcMap, b impl.GwyBook, messages []impl.MsgMsg, orders []impl.OrdOrder) {
	t.Helper()
	for _, o := range orders {
		askBookMemory(t, "GwyAsk", b, func(b impl.GwyBook) impl.GwyBook {
			got, _ := takeOrder(m, b, o)
			return got
		})
	}
	for _, x := range messages {
		askBookMemory(t, "GwyHear", b, func(b impl.GwyBook) impl.GwyBook {
			got, _ := impl.GwyHear(m, b, 2, x)
			return got
		})
	}
	askBookMemory(t, "asking", b, func(b impl.GwyBook) impl.GwyBook {
		impl.GwyOk(m, b)
		for who := range 11 {
			impl.GwySay(m, b, gateTable(), 2, who)
		}
		return impl.GwyBook{}
	})
}

func TestBooksMemory(t *testing.T) {
	var orders []impl.OrdOrder
	for who := 0; who <= 10; who++ {
		orders = append(orders, impl.OrdOrder{Who: who, Kind: impl.OrdRest}, impl.OrdOrder{Who: who, Kind: impl.OrdDrop, N: 10})
	}
	eachBook(t, 311, 3, func(r *rand.Rand, m impl.PlcMap, b impl.GwyBook) {
		askGateMemory(t, m, b, answersAround(r, m, b), orders)
	})
	askGateMemory(t, messagesMap, gateBook(), gateMessages(), orders)
	for _, b := range wrongBooks() {
		askGateMemory(t, messagesMap, b, gateMessages()[:3], orders[:4])
	}
	for _, x := range []impl.MsgMsg{{}, toldOf(0, gateBook().Rows[0].Order, 10)} {
		askGateMemory(t, messagesMap, gateBook(), []impl.MsgMsg{x}, nil)
	}
}

// The walkers of a new book are not written into, spare room included, and the book is no memory of another one.
func TestNewBooksMemory(t *testing.T) {
	lists := okWalkers(messagesMap, 312)
	for _, list := range append(lists, anyWalkers(313, 300)...) {
		short, room := withRoom(list, spareWalker)
		before := slices.Clone(room)
		got, again := impl.GwyNew(messagesMap, short), impl.GwyNew(messagesMap, short)
		kept := cloneBook(got)
		writeOver(again.Rows, spareRow(1))
		if !slices.Equal(room, before) || !sameBook(got, kept) || !sameBook(got, impl.GwyNew(messagesMap, list)) {
			t.Fatalf("GwyNew of %v writes into its argument or shares memory: %+v", list, got)
		}
	}
}

// The table of which the gateway asks is not written into.
func TestTablesAreOnlyRead(t *testing.T) {
	tables := wrongTables()
	tables["ok"] = gateTable()
	for why, table := range tables {
		for who := range 11 {
			askTableMemory(t, "GwySay: "+why, table, func(table impl.ArbTable) impl.ArbTable {
				impl.GwySay(messagesMap, gateBook(), table, 2, who)
				return impl.ArbTable{}
			})
		}
		short := impl.ArbTable{}
		short.Servers, _ = withRoom(table.Servers, func(i int) int { return 0 })
		short.Ages, _ = withRoom(table.Ages, func(i int) int { return 1 })
		for who := range 11 {
			got, ok := impl.GwySay(messagesMap, gateBook(), short, 2, who)
			want, wantOk := impl.GwySay(messagesMap, gateBook(), table, 2, who)
			if got != want || ok != wantOk {
				t.Errorf("%s: what is said of %d hangs on spare room", why, who)
			}
		}
	}
}
