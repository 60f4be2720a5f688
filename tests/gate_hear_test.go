package tests

import (
	"math/rand"
	"slices"
	"strconv"
	"testing"

	"loop.example/landmarch/impl"
)

// askGateHears asks that GwyHear answers what the words say, and that no row turns but that of the order.
func askGateHears(t *testing.T, m impl.PlcMap, b impl.GwyBook, servers int, x impl.MsgMsg) (impl.GwyBook, bool) {
	t.Helper()
	got, ok := impl.GwyHear(m, b, servers, x)
	want, wantOk := gateHearPlainly(m, b, x)
	if ok != wantOk || !sameBook(got, want) {
		t.Fatalf("GwyHear(%v, %+v, %d, %+v) is %+v, %v, not %+v, %v", m, b, servers, x, got, ok, want, wantOk)
	}
	if !impl.GwyOk(m, got) || len(got.Rows) != len(b.Rows) {
		t.Fatalf("behind GwyHear(%v, %+v, %d, %+v) the book is %+v", m, b, servers, x, got)
	}
	for i, row := range got.Rows {
		if row != b.Rows[i] && !(b.Rows[i].Busy && b.Rows[i].Order == x.Order) {
			t.Fatalf("GwyHear(%v, %+v, %d, %+v) turned the row %+v", m, b, servers, x, row)
		}
		if !ok {
			row.Cell = b.Rows[i].Cell
		}
		if !ok && row != b.Rows[i] {
			t.Fatalf("GwyHear(%v, %+v, %d, %+v) turned more than the Cell: %+v", m, b, servers, x, row)
		}
	}
	return got, ok
}

func TestP30AnswersAreHeard(t *testing.T) {
	done, turned := map[bool]int{}, 0
	eachBook(t, 301, 12, func(r *rand.Rand, m impl.PlcMap, b impl.GwyBook) {
		for _, x := range answersAround(r, m, b) {
			after, ok := askGateHears(t, m, b, 1+r.Intn(3), x)
			done[ok]++
			if !ok && !sameBook(after, b) {
				turned++
			}
			// What was told once is not told again; who is away is not there again in the same cell.
			again, twice := askGateHears(t, m, after, 3, x)
			if twice || !sameBook(again, after) {
				t.Fatalf("%+v is heard twice: %+v, then %+v", x, after, again)
			}
		}
	})
	if done[true] < 1000 || done[false] < 1000 || turned < 500 {
		t.Errorf("so many were done: %v, and so many turned else: %d", done, turned)
	}
}

// MsgTold ends just the order under way, whatever the cell and the code.
func TestP30ToldOnce(t *testing.T) {
	for _, m := range ghostMaps {
		for from := range m.Cells {
			for cell := range m.Cells {
				for code := 1; code <= 9; code++ {
					for _, o := range []impl.OrdOrder{{Who: 5, Seq: 1, Kind: 1}, {Who: 5, Seq: 899, Kind: 2, To: 1, N: 9}, {Who: 5, Seq: 900, Kind: 6}} {
						b := impl.GwyBook{Rows: []impl.GwyRow{{Who: 1, Cell: from}, busyWith(from, o), {Who: 6, Cell: from, Seq: 900}}}
						after, ok := askGateHears(t, m, b, 1, toldOf(cell, o, code))
						want := cloneBook(b)
						want.Rows[1] = impl.GwyRow{Who: 5, Cell: cell, Seq: o.Seq, Code: code}
						if !ok || !sameBook(after, want) {
							t.Fatalf("told of %+v in the cell %d: %+v, %v", o, cell, after, ok)
						}
						for _, other := range []int{code, 1, 9} {
							if again, twice := askGateHears(t, m, after, 1, toldOf(from, o, other)); twice || !sameBook(again, after) {
								t.Fatalf("told of %+v twice: %+v", o, again)
							}
						}
						if again, twice := askGateHears(t, m, after, 1, awayOf(cell, o)); twice || !sameBook(again, after) {
							t.Fatalf("away behind told of %+v: %+v", o, again)
						}
					}
				}
			}
		}
	}
}

// MsgAway from the row's cell turns it to the next one, from the last one to the first one; from any other cell nothing turns.
func TestP30AwayTurnsTheCellAlone(t *testing.T) {
	for _, m := range okMaps() {
		next := []int{1, 2, 3, 4}[:m.Cells]
		next[m.Cells-1] = 0
		for from := range m.Cells {
			for cell := range m.Cells {
				for _, o := range []impl.OrdOrder{{Who: 5, Seq: 1, Kind: 6}, {Who: 5, Seq: 900, Kind: 5, To: 1, N: 4}} {
					b := impl.GwyBook{Rows: []impl.GwyRow{{Who: 1, Cell: from}, busyWith(from, o), {Who: 6, Cell: from}}}
					after, ok := askGateHears(t, m, b, 2, awayOf(cell, o))
					want := cloneBook(b)
					if cell == from {
						want.Rows[1].Cell = next[from]
					}
					if ok || !sameBook(after, want) {
						t.Fatalf("on %v away from %d with the row in %d: %+v, %v", m, cell, from, after, ok)
					}
				}
			}
		}
	}
}

// From cell to cell, round and round: who is away everywhere comes back to where it was asked first.
func TestP30AwayRoundAndRound(t *testing.T) {
	for _, m := range okMaps() {
		o := impl.OrdOrder{Who: 3, Seq: 2, Kind: impl.OrdRest}
		b := impl.GwyBook{Rows: []impl.GwyRow{busyWith(0, o)}}
		for i := range 3 * m.Cells {
			if b.Rows[0] != busyWith(i%m.Cells, o) {
				t.Fatalf("behind %d times away the row is %+v", i, b.Rows[0])
			}
			b, _ = askGateHears(t, m, b, 3, awayOf(i%m.Cells, o))
		}
	}
}

// An order that is the same but for one field, earlier, later or another walker's is another one.
func TestP30AnswersToOtherOrders(t *testing.T) {
	for _, o := range append(deedsOf(4, 1), append(deedsOf(4, 450), deedsOf(4, 900)...)...) {
		near := nearOrders(o)
		if len(near) < 4 {
			t.Fatalf("only so many orders are near to %+v: %v", o, near)
		}
		for _, alone := range []bool{true, false} {
			b := impl.GwyBook{Rows: []impl.GwyRow{{Who: 1, Cell: 1}, busyWith(1, o), {Who: 5, Cell: 1, Seq: o.Seq - 1}}}
			if alone {
				b.Rows = b.Rows[1:2]
			}
			for _, other := range near {
				for _, x := range []impl.MsgMsg{toldOf(1, other, 1), awayOf(1, other)} {
					if got, ok := askGateHears(t, messagesMap, b, 2, x); ok || !sameBook(got, b) {
						t.Fatalf("busy with %+v it hears %+v: %+v, %v", o, x, got, ok)
					}
				}
			}
		}
	}
}

// A row that is not Busy hears nothing, not of its last order nor of its next one; and who has no row has none to hear.
func TestP30NobodyAsked(t *testing.T) {
	for _, seq := range []int{0, 1, 5, 899, 900} {
		b := impl.GwyBook{Rows: []impl.GwyRow{{Who: 4, Cell: 1, Seq: seq, Code: 1}}}
		for _, who := range []int{1, 3, 4, 5, 9} {
			for _, of := range []int{1, seq - 1, seq, seq + 1, seq + 2, 900} {
				o := impl.OrdOrder{Who: who, Seq: of, Kind: impl.OrdRest}
				if !orderOkPlainly(o) {
					continue
				}
				for _, x := range []impl.MsgMsg{toldOf(1, o, 1), toldOf(2, o, 9), awayOf(1, o), awayOf(0, o)} {
					for _, book := range []impl.GwyBook{b, {}} {
						if got, ok := askGateHears(t, messagesMap, book, 2, x); ok || !sameBook(got, book) {
							t.Errorf("%+v hears %+v: %+v, %v", book, x, got, ok)
						}
					}
				}
			}
		}
	}
}

// Two rows that are Busy: each hears of its own order, and of no other one.
func TestP30EachRowHearsItsOwn(t *testing.T) {
	b := gateBook()
	first, second := b.Rows[0].Order, b.Rows[2].Order
	cases := []struct {
		x    impl.MsgMsg
		at   int
		want impl.GwyRow
		done bool
	}{
		{toldOf(2, first, 7), 0, impl.GwyRow{Who: 2, Cell: 2, Seq: 6, Code: 7}, true},
		{awayOf(0, first), 0, impl.GwyRow{Who: 2, Cell: 1, Busy: true, Order: first, Seq: 5, Code: 4}, false},
		{awayOf(1, first), 0, b.Rows[0], false},
		{toldOf(2, second, 1), 2, impl.GwyRow{Who: 7, Cell: 2, Seq: 1, Code: 1}, true},
		{toldOf(0, second, 9), 2, impl.GwyRow{Who: 7, Cell: 0, Seq: 1, Code: 9}, true},
		{awayOf(2, second), 2, impl.GwyRow{Who: 7, Cell: 0, Busy: true, Order: second}, false},
		{awayOf(0, second), 2, b.Rows[2], false},
	}
	for _, c := range cases {
		want := cloneBook(b)
		want.Rows[c.at] = c.want
		if got, done := askGateHears(t, messagesMap, b, 2, c.x); done != c.done || !sameBook(got, want) {
			t.Errorf("of %+v it is %+v, %v", c.x, got, done)
		}
	}
}

// A message of another Kind turns nothing, though it has just the order that is under way.
func TestP30OtherKinds(t *testing.T) {
	b := gateBook()
	messages := goodMessages()
	for _, row := range b.Rows {
		for cell := range 3 {
			if row.Busy {
				messages = append(messages, askOf(0, cell, row.Order), askOf(1, cell, row.Order))
			}
		}
	}
	for _, x := range messages {
		if got, ok := askGateHears(t, messagesMap, b, 2, x); ok || !sameBook(got, b) {
			t.Errorf("of %+v it is %+v, %v", x, got, ok)
		}
	}
}

func TestP30MessagesThatAreNotOk(t *testing.T) {
	askNone := func(why string, m impl.PlcMap, b impl.GwyBook, servers int, x impl.MsgMsg) {
		t.Helper()
		if got, ok := impl.GwyHear(m, b, servers, x); ok || !isNoBook(got) {
			t.Errorf("%s: GwyHear(%v, %+v, %d, %+v) is %+v, %v", why, m, b, servers, x, got, ok)
		}
	}
	for why, x := range wrongMessages() {
		askNone(why, messagesMap, gateBook(), 2, x)
		askNone(why+", of just the order", messagesMap, impl.GwyBook{Rows: []impl.GwyRow{busyWith(1, goodMessages()[1].Order)}}, 2, x)
	}
	b := gateBook()
	for _, x := range []impl.MsgMsg{toldOf(0, b.Rows[0].Order, 1), awayOf(0, b.Rows[0].Order), toldOf(2, b.Rows[2].Order, 9), awayOf(2, b.Rows[2].Order)} {
		for name, more := range someMore() {
			if !mayHave(x.Kind, name) {
				askNone(name, messagesMap, b, 2, turnedMessage(x, more))
			}
		}
		for _, to := range append([]int{-2, 0, 1, 2}, farNumbers...) {
			askNone("To "+strconv.Itoa(to), messagesMap, b, 2, turnedMessage(x, func(x *impl.MsgMsg) { x.To = to }))
		}
		for _, cell := range append([]int{-1, 3, 4}, farNumbers...) {
			askNone("Cell "+strconv.Itoa(cell), messagesMap, b, 2, turnedMessage(x, func(x *impl.MsgMsg) { x.Cell = cell }))
		}
		for _, n := range append([]int{-1, 10, 11}, farNumbers...) {
			askNone("N "+strconv.Itoa(n), messagesMap, b, 2, turnedMessage(x, func(x *impl.MsgMsg) { x.N = n }))
		}
		for _, servers := range append([]int{-1, 0, 4, 5}, farNumbers...) {
			askNone(strconv.Itoa(servers)+" servers", messagesMap, b, servers, x)
			askNone(strconv.Itoa(servers)+" servers, no rows", messagesMap, impl.GwyBook{}, servers, x)
		}
		for servers := 1; servers <= 3; servers++ {
			if got, _ := askGateHears(t, messagesMap, b, servers, x); sameBook(got, b) {
				t.Errorf("of %d servers it hears nothing of %+v", servers, x)
			}
		}
	}
	askNone("told of no code", messagesMap, b, 2, toldOf(0, b.Rows[0].Order, 0))
}

// The gateway beside a server that is asked: it is told of each order once, wherever the walker is.
func TestP29P30P31TheGatewayAndAServer(t *testing.T) {
	m := impl.PlcMap{Cells: 3, Width: 2}
	walkers := []impl.WlkWalker{{Id: 3, At: 0, Coins: 5}}
	h := hearing{m: m, server: impl.SrvNew(), table: impl.ArbNew(m), servers: 1}
	for cell := range m.Cells {
		h.stores = append(h.stores, impl.StoNew(m, cell, walkers))
		h.table, _ = impl.ArbGrant(m, h.table, 1, cell, 0)
	}
	for cell := range m.Cells {
		h = h.behind(h.hear(grantOf(0, cell, 1)))
	}
	b := impl.GwyNew(m, walkers)
	var codes []int
	for range 6 {
		b, _ = impl.GwyAsk(m, b, 3, impl.OrdStep, impl.PlcRight, 0)
		for range 4 * m.Cells {
			x, said := impl.GwySay(m, b, h.table, 1, 3)
			if !said {
				break
			}
			a := h.hear(x)
			h = h.behind(a)
			for _, word := range a.said {
				var done bool
				if b, done = impl.GwyHear(m, b, 1, word); done {
					codes = append(codes, b.Rows[0].Code)
				}
			}
		}
		for cell := range m.Cells {
			for _, x := range h.tick(cell) {
				h = h.behind(h.hear(x))
			}
		}
	}
	// The sixth step is one past the last place.
	if want := []int{1, 1, 1, 1, 1, 2}; !slices.Equal(codes, want) || b.Rows[0] != (impl.GwyRow{Who: 3, Cell: 2, Seq: 6, Code: 2}) {
		t.Errorf("the codes are %v, and the book %+v", codes, b)
	}
}
