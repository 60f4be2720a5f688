package tests

import (
	"math/rand"
	"slices"
	"testing"

	"loop.example/landmarch/impl"
)

// askBook asks that a book is ok as the words say.
func askBook(t *testing.T, m impl.PlcMap, b impl.GwyBook) bool {
	t.Helper()
	got := impl.GwyOk(m, b)
	if got != (impl.PlcOk(m) && bookOkPlainly(m, b)) {
		t.Fatalf("GwyOk(%v, %+v) is %v", m, b, got)
	}
	return got
}

func TestP29NewBooks(t *testing.T) {
	for _, m := range okMaps() {
		for _, list := range okWalkers(m, 281) {
			got := impl.GwyNew(m, list)
			if !sameBook(got, newBookPlainly(m, list)) || !askBook(t, m, got) {
				t.Fatalf("GwyNew(%v, %v) is %+v", m, list, got)
			}
		}
		// At each place, and with each number at the ends of its bounds.
		for at, cell := range cellsOfPlaces(m) {
			for _, seq := range []int{0, 1, 900} {
				for _, last := range []int{0, 1, 9} {
					got := impl.GwyNew(m, []impl.WlkWalker{{Id: 3, At: at, Coins: 99, Seq: seq, Last: last}})
					if want := []impl.GwyRow{{Who: 3, Cell: cell, Seq: seq, Code: last}}; !slices.Equal(got.Rows, want) {
						t.Fatalf("on %v the row of who is at %d is %+v, not %+v", m, at, got.Rows, want)
					}
				}
			}
		}
	}
}

func TestP29NoNewBooks(t *testing.T) {
	good := []impl.WlkWalker{{Id: 1, At: 0, Seq: 1, Last: 1}, {Id: 4, At: 3}}
	for _, m := range badMaps() {
		for _, list := range [][]impl.WlkWalker{nil, {}, good} {
			if got := impl.GwyNew(m, list); !isNoBook(got) {
				t.Errorf("GwyNew(%v, %v) is %+v", m, list, got)
			}
		}
	}
	m := impl.PlcMap{Cells: 2, Width: 3}
	for at := range good {
		for _, bound := range walkerBounds {
			for _, n := range numbersAround(bound.low, bound.high) {
				list := slices.Clone(good)
				bound.set(&list[at], n)
				if got, ok := impl.GwyNew(m, list), impl.WlkListOk(m, list); isNoBook(got) == ok {
					t.Errorf("GwyNew(%v, %v) is %+v: %s", m, list, got, bound.name)
				}
			}
		}
		for _, place := range numbersAround(0, 5) {
			list := slices.Clone(good)
			list[at].At = place
			if got := impl.GwyNew(m, list); isNoBook(got) == (place >= 0 && place <= 5) {
				t.Errorf("GwyNew(%v, %v) is %+v", m, list, got)
			}
		}
	}
	for _, list := range [][]impl.WlkWalker{
		{good[1], good[0]},
		{good[0], good[0]},
		{good[0], good[1], good[1]},
		{good[0], {}},
		{{}},
		{good[0], good[1], {Id: 4, At: 5}},
	} {
		if got := impl.GwyNew(m, list); !isNoBook(got) {
			t.Errorf("GwyNew(%v, %v) is %+v", m, list, got)
		}
	}
	for _, list := range anyWalkers(282, 2000) {
		if got := impl.GwyNew(m, list); !impl.WlkListOk(m, list) && !isNoBook(got) {
			t.Fatalf("GwyNew(%v, %v) is %+v", m, list, got)
		}
	}
}

// Each number of a row at its bounds and past them, with an order under way and without one.
func TestP29EndsOfTheBoundsOfRows(t *testing.T) {
	bounds := []struct {
		name      string
		low, high int
		row       func(n int) impl.GwyRow
		busy      bool
	}{
		{"Who", 1, 9, func(n int) impl.GwyRow { return impl.GwyRow{Who: n} }, false},
		{"Who and the order's", 1, 9, func(n int) impl.GwyRow { return busyWith(0, impl.OrdOrder{Who: n, Seq: 1, Kind: 6}) }, true},
		{"Seq", 0, 900, func(n int) impl.GwyRow { return impl.GwyRow{Who: 4, Seq: n} }, false},
		{"Seq, and the order's behind it", 0, 899, func(n int) impl.GwyRow { return busyWith(0, impl.OrdOrder{Who: 4, Seq: n + 1, Kind: 6}) }, true},
		{"Code", 0, 9, func(n int) impl.GwyRow { return impl.GwyRow{Who: 4, Code: n} }, false},
	}
	for _, bound := range bounds {
		for _, n := range numbersAround(bound.low, bound.high) {
			b := impl.GwyBook{Rows: []impl.GwyRow{bound.row(n)}}
			if got := askBook(t, messagesMap, b); got != (n >= bound.low && n <= bound.high) {
				t.Errorf("%s %d: GwyOk(%+v) is %v", bound.name, n, b, got)
			}
		}
	}
	for _, m := range okMaps() {
		for _, cell := range numbersAround(0, m.Cells-1) {
			for _, row := range []impl.GwyRow{{Who: 1, Cell: cell}, busyWith(cell, impl.OrdOrder{Who: 9, Seq: 900, Kind: 6})} {
				b := impl.GwyBook{Rows: []impl.GwyRow{row}}
				if got := askBook(t, m, b); got != (cell >= 0 && cell < m.Cells) {
					t.Errorf("on %v GwyOk(%+v) is %v", m, b, got)
				}
			}
		}
	}
}

// Of a row that is Busy the order's number is the one behind Seq, and its walker the row's.
func TestP29OrdersOfRows(t *testing.T) {
	for _, seq := range []int{0, 1, 5, 898, 899, 900} {
		for _, of := range numbersAround(seq-1, seq+2) {
			for who := 0; who <= 10; who++ {
				row := busyWith(1, impl.OrdOrder{Who: who, Seq: of, Kind: 6})
				row.Who, row.Seq = 4, seq
				got := askBook(t, messagesMap, impl.GwyBook{Rows: []impl.GwyRow{row}})
				if got != (who == 4 && of == seq+1 && of <= 900) {
					t.Errorf("GwyOk(%+v) is %v", row, got)
				}
				row.Busy = false
				if askBook(t, messagesMap, impl.GwyBook{Rows: []impl.GwyRow{row}}) {
					t.Errorf("not Busy GwyOk(%+v) is true", row)
				}
			}
		}
	}
	for _, o := range wrongOrders() {
		row := impl.GwyRow{Who: o.Who, Busy: true, Order: o, Seq: o.Seq - 1}
		if askBook(t, messagesMap, impl.GwyBook{Rows: []impl.GwyRow{row}}) {
			t.Errorf("GwyOk(%+v) is true", row)
		}
		row.Who, row.Seq = 4, 0
		if askBook(t, messagesMap, impl.GwyBook{Rows: []impl.GwyRow{row}}) {
			t.Errorf("GwyOk(%+v) is true", row)
		}
	}
	for who := 1; who <= 9; who++ {
		for _, o := range append(deedsOf(who, 1), deedsOf(who, 900)...) {
			if !askBook(t, messagesMap, impl.GwyBook{Rows: []impl.GwyRow{busyWith(2, o)}}) {
				t.Errorf("with the order %+v the book is not ok", o)
			}
		}
	}
}

func TestP29BooksThatAreOk(t *testing.T) {
	for _, m := range okMaps() {
		for _, b := range []impl.GwyBook{{}, {Rows: []impl.GwyRow{}}, {Rows: make([]impl.GwyRow, 0, 3)}} {
			if !askBook(t, m, b) {
				t.Errorf("on %v no rows are not ok", m)
			}
		}
	}
	count := map[bool]int{}
	eachBook(t, 283, 60, func(r *rand.Rand, m impl.PlcMap, b impl.GwyBook) {
		if !askBook(t, m, b) {
			t.Fatalf("GwyOk(%v, %+v) is false", m, b)
		}
		if len(b.Rows) == 0 {
			return
		}
		for range 20 {
			turned := cloneBook(b)
			row := &turned.Rows[r.Intn(len(b.Rows))]
			switch r.Intn(8) {
			case 0:
				row.Who = r.Intn(11)
			case 1:
				row.Cell = r.Intn(6) - 1
			case 2:
				row.Busy = !row.Busy
			case 3:
				row.Seq = oneOf(r, -1, 0, row.Seq-1, row.Seq+1, 900, 901)
			case 4:
				row.Code = r.Intn(12) - 1
			case 5:
				row.Order = turned.Rows[r.Intn(len(b.Rows))].Order
			case 6:
				row.Order.To, row.Order.N = r.Intn(10), r.Intn(10)
			case 7:
				other := r.Intn(len(b.Rows))
				*row, turned.Rows[other] = turned.Rows[other], *row
			}
			count[askBook(t, m, turned)]++
		}
	})
	if count[true] < 1000 || count[false] < 1000 {
		t.Errorf("so many were ok: %v", count)
	}
}

// askNoGate asks that a book or map that is not ok takes nothing, says nothing and hears nothing.
func askNoGate(t *testing.T, why string, m impl.PlcMap, b impl.GwyBook, table impl.ArbTable) {
	t.Helper()
	if askBook(t, m, b) {
		t.Errorf("%s: GwyOk(%v, %+v) is true", why, m, b)
	}
	for who := 0; who <= 10; who++ {
		for _, kind := range []int{impl.OrdRest, 0} {
			if got, ok := impl.GwyAsk(m, b, who, kind, 0, 0); ok || !isNoBook(got) {
				t.Errorf("%s: GwyAsk(%v, %+v, %d, %d) is %+v, %v", why, m, b, who, kind, got, ok)
			}
		}
		if got, ok := impl.GwySay(m, b, table, 2, who); ok || got != (impl.MsgMsg{}) {
			t.Errorf("%s: GwySay(%v, %+v, %d) is %+v, %v", why, m, b, who, got, ok)
		}
	}
	for _, x := range gateMessages() {
		if got, ok := impl.GwyHear(m, b, 2, x); ok || !isNoBook(got) {
			t.Errorf("%s: GwyHear(%v, %+v, %+v) is %+v, %v", why, m, b, x, got, ok)
		}
	}
}

func TestP29P30P31BooksThatAreNotOk(t *testing.T) {
	table := impl.ArbTable{Servers: []int{0, 1, 1}, Ages: []int{1, 2, 3}}
	for why, b := range wrongBooks() {
		askNoGate(t, why, messagesMap, b, table)
	}
	// A cell more is a cell too many on a smaller map.
	askNoGate(t, "another map", impl.PlcMap{Cells: 2, Width: 4}, gateBook(), impl.ArbTable{Servers: []int{0, 1}, Ages: []int{1, 2}})
}

func TestP29P30P31MapsThatAreNotOk(t *testing.T) {
	for _, m := range append(badMaps(), impl.PlcMap{}, impl.PlcMap{Cells: 1, Width: 4}) {
		first := impl.GwyBook{Rows: []impl.GwyRow{busyWith(0, impl.OrdOrder{Who: 2, Seq: 6, Kind: impl.OrdGive, To: 7, N: 3})}}
		askNoGate(t, "the map", m, gateBook(), gateTable())
		askNoGate(t, "the map, with the first cell alone", m, first, impl.ArbTable{Servers: []int{0}, Ages: []int{1}})
		askNoGate(t, "the map, with no rows", m, impl.GwyBook{}, impl.ArbTable{})
	}
}

// askOrderTaken asks that GwyAsk answers what the words say, and that no other row turns.
func askOrderTaken(t *testing.T, m impl.PlcMap, b impl.GwyBook, o impl.OrdOrder) bool {
	t.Helper()
	got, ok := takeOrder(m, b, o)
	want, wantOk := takePlainly(b, o)
	if ok != wantOk || !sameBook(got, want) {
		t.Fatalf("GwyAsk(%v, %+v, %+v) is %+v, %v, not %+v, %v", m, b, o, got, ok, want, wantOk)
	}
	if !impl.GwyOk(m, got) {
		t.Fatalf("behind GwyAsk(%v, %+v, %+v) the book is %+v", m, b, o, got)
	}
	if !ok && !sameBook(got, b) {
		t.Fatalf("GwyAsk(%v, %+v, %+v) is false, and %+v", m, b, o, got)
	}
	for i, row := range got.Rows {
		before := b.Rows[i]
		if ok && row.Who == o.Who {
			o.Seq = before.Seq + 1
			before.Busy, before.Order = true, o
		}
		if row != before {
			t.Fatalf("GwyAsk(%v, %+v, %+v) turned the row %+v", m, b, o, row)
		}
	}
	return ok
}

func TestP29OrdersAreTaken(t *testing.T) {
	taken := map[bool]int{}
	eachBook(t, 284, 6, func(r *rand.Rand, m impl.PlcMap, b impl.GwyBook) {
		for who := 1; who <= 9; who++ {
			for _, o := range deedsOf(who, 1) {
				taken[askOrderTaken(t, m, b, o)]++
			}
		}
		for _, who := range append([]int{-1, 0, 10}, farNumbers...) {
			if askOrderTaken(t, m, b, impl.OrdOrder{Who: who, Kind: impl.OrdRest}) {
				t.Errorf("an order of %d is taken", who)
			}
		}
	})
	if taken[true] < 3000 || taken[false] < 3000 {
		t.Errorf("so many were taken: %v", taken)
	}
}

// Every kind at the bounds of what it has, of who has a row with no order under way.
func TestP29OrdersThatAreNotOk(t *testing.T) {
	taken := map[bool]int{}
	for _, kind := range numbersAround(1, 6) {
		for _, to := range numbersAround(0, 9) {
			for _, n := range numbersAround(0, 9) {
				taken[askOrderTaken(t, messagesMap, gateBook(), impl.OrdOrder{Who: 4, Kind: kind, To: to, N: n})]++
			}
		}
	}
	// Two steps, a rest, and for each of 9 numbers of coins two throws, a drop, a pick and 8 gifts.
	if taken[true] != 3+9*12 {
		t.Errorf("so many were taken: %v", taken)
	}
}

// Whose row is at the last number takes no order, as that would have one past it.
func TestP29NoOrderPastTheLastNumber(t *testing.T) {
	for _, seq := range []int{0, 1, 897, 898, 899, 900} {
		b := impl.GwyBook{Rows: []impl.GwyRow{{Who: 3, Cell: 1, Seq: seq, Code: 1}, {Who: 5, Cell: 1, Seq: 900}}}
		for _, o := range deedsOf(3, 1) {
			if got := askOrderTaken(t, messagesMap, b, o); got != (seq < 900) {
				t.Errorf("behind %d the order %+v is taken: %v", seq, o, got)
			}
		}
	}
}

// One order behind the other, each with the next number, from the beginning to the last one; one that is under way lets no other one in.
func TestP29OneOrderBehindTheOther(t *testing.T) {
	m := impl.PlcMap{Cells: 2, Width: 2}
	b := impl.GwyNew(m, []impl.WlkWalker{{Id: 2, At: 0}, {Id: 6, At: 3, Seq: 880}})
	deeds := deedsOf(2, 1)
	code := 0
	for seq := 1; seq <= 900; seq++ {
		o := deeds[seq%len(deeds)]
		o.Seq = seq
		if !askOrderTaken(t, m, b, o) {
			t.Fatalf("the order %d is not taken", seq)
		}
		b, _ = takeOrder(m, b, o)
		if b.Rows[0] != (impl.GwyRow{Who: 2, Cell: (seq - 1) % 2, Busy: true, Order: o, Seq: seq - 1, Code: code}) {
			t.Fatalf("with the order %+v the book is %+v", o, b)
		}
		if again, ok := takeOrder(m, b, o); ok || !sameBook(again, b) {
			t.Fatalf("the order %+v is taken twice: %+v", o, again)
		}
		if other, ok := impl.GwyAsk(m, b, 2, impl.OrdRest, 0, 0); ok || !sameBook(other, b) {
			t.Fatalf("beside the order %+v another one is taken: %+v", o, other)
		}
		var done bool
		code = 1 + seq%9
		b, done = impl.GwyHear(m, b, 1, toldOf(seq%2, o, code))
		if !done {
			t.Fatalf("the order %+v is not done", o)
		}
	}
	if got, ok := impl.GwyAsk(m, b, 2, impl.OrdRest, 0, 0); ok || !sameBook(got, b) {
		t.Errorf("behind the last order one more is taken: %+v", got)
	}
	if got, ok := impl.GwyAsk(m, b, 6, impl.OrdRest, 0, 0); !ok || got.Rows[1].Order.Seq != 881 {
		t.Errorf("beside it no order of the other walker is taken: %+v", got)
	}
}

// Two walkers have their orders under way beside each other.
func TestP29OrdersOfTwoWalkers(t *testing.T) {
	m := messagesMap
	b := impl.GwyNew(m, []impl.WlkWalker{{Id: 1, At: 0}, {Id: 2, At: 5, Seq: 7, Last: 3}, {Id: 9, At: 11}})
	b, first := impl.GwyAsk(m, b, 2, impl.OrdGive, 1, 9)
	b, second := impl.GwyAsk(m, b, 9, impl.OrdThrow, impl.PlcLeft, 1)
	b, third := impl.GwyAsk(m, b, 2, impl.OrdRest, 0, 0)
	want := []impl.GwyRow{
		{Who: 1},
		{Who: 2, Cell: 1, Busy: true, Order: impl.OrdOrder{Who: 2, Seq: 8, Kind: 2, To: 1, N: 9}, Seq: 7, Code: 3},
		{Who: 9, Cell: 2, Busy: true, Order: impl.OrdOrder{Who: 9, Seq: 1, Kind: 5, To: 0, N: 1}},
	}
	if !first || !second || third || !slices.Equal(b.Rows, want) {
		t.Errorf("%v %v %v: %+v", first, second, third, b)
	}
}
