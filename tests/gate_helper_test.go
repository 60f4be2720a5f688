package tests

import (
	"math/rand"
	"slices"
	"strconv"
	"testing"

	"loop.example/landmarch/impl"
)

// sameBook holds books against each other; the empty list and the nil list are the same.
func sameBook(a, b impl.GwyBook) bool {
	return slices.Equal(a.Rows, b.Rows)
}

// isNoBook is whether a book is the zero value, its list empty.
func isNoBook(b impl.GwyBook) bool {
	return len(b.Rows) == 0
}

// cloneBook is the same book in new memory.
func cloneBook(b impl.GwyBook) impl.GwyBook {
	return impl.GwyBook{Rows: slices.Clone(b.Rows)}
}

// takeOrder is GwyAsk of all but the Seq of an order.
func takeOrder(m impl.PlcMap, b impl.GwyBook, o impl.OrdOrder) (impl.GwyBook, bool) {
	return impl.GwyAsk(m, b, o.Who, o.Kind, o.To, o.N)
}

// busyWith is a row with an order under way.
func busyWith(cell int, o impl.OrdOrder) impl.GwyRow {
	return impl.GwyRow{Who: o.Who, Cell: cell, Busy: true, Order: o, Seq: o.Seq - 1, Code: 1}
}

// someRow is a row that is ok, its numbers often at the ends of their bounds.
func someRow(r *rand.Rand, m impl.PlcMap, who int) impl.GwyRow {
	row := impl.GwyRow{
		Who:  who,
		Cell: oneOf(r, 0, m.Cells-1, r.Intn(m.Cells)),
		Seq:  oneOf(r, 0, 1, 2, 450, 898, 899, 900),
		Code: oneOf(r, 0, 1, 9, r.Intn(10)),
	}
	if row.Seq < 900 && r.Intn(3) > 0 {
		deeds := deedsOf(who, row.Seq+1)
		row.Busy, row.Order = true, deeds[r.Intn(len(deeds))]
	}
	return row
}

// someBook is a book that is ok, of some walkers, of none or of all.
func someBook(r *rand.Rand, m impl.PlcMap) impl.GwyBook {
	var b impl.GwyBook
	share := oneOf(r, 0, 1, 2, 3, 4)
	for who := 1; who <= 9; who++ {
		if r.Intn(4) < share {
			b.Rows = append(b.Rows, someRow(r, m, who))
		}
	}
	return b
}

// eachBook is books that are ok, so many for each map.
func eachBook(t *testing.T, seed int64, count int, each func(r *rand.Rand, m impl.PlcMap, b impl.GwyBook)) {
	t.Helper()
	r := rand.New(rand.NewSource(seed))
	for _, m := range okMaps() {
		for range count {
			b := someBook(r, m)
			if !bookOkPlainly(m, b) {
				t.Fatalf("the test's own book %+v is not ok", b)
			}
			each(r, m, b)
		}
	}
}

// nearOrders is orders that are ok and near to one: the same but for one field, and for two.
func nearOrders(o impl.OrdOrder) []impl.OrdOrder {
	var list []impl.OrdOrder
	add := func(near impl.OrdOrder) {
		if near != o && orderOkPlainly(near) {
			list = append(list, near)
		}
	}
	for who := 1; who <= 9; who++ {
		add(impl.OrdOrder{Who: who, Seq: o.Seq, Kind: o.Kind, To: o.To, N: o.N})
	}
	for _, seq := range []int{1, o.Seq - 2, o.Seq - 1, o.Seq + 1, o.Seq + 2, 900} {
		add(impl.OrdOrder{Who: o.Who, Seq: seq, Kind: o.Kind, To: o.To, N: o.N})
	}
	for kind := 1; kind <= 6; kind++ {
		add(impl.OrdOrder{Who: o.Who, Seq: o.Seq, Kind: kind, To: o.To, N: o.N})
		add(impl.OrdOrder{Who: o.Who, Seq: o.Seq, Kind: kind, To: o.To})
		add(impl.OrdOrder{Who: o.Who, Seq: o.Seq, Kind: kind, N: o.N})
	}
	for to := 0; to <= 9; to++ {
		add(impl.OrdOrder{Who: o.Who, Seq: o.Seq, Kind: o.Kind, To: to, N: o.N})
	}
	for n := 1; n <= 9; n++ {
		add(impl.OrdOrder{Who: o.Who, Seq: o.Seq, Kind: o.Kind, To: o.To, N: n})
	}
	return list
}

// answersAround is answers about each cell: to the orders that are under way, to those near to them, and to what would be the last and the next one of who has none.
func answersAround(r *rand.Rand, m impl.PlcMap, b impl.GwyBook) []impl.MsgMsg {
	var orders []impl.OrdOrder
	for who := 1; who <= 9; who++ {
		i := rowOf(b, who)
		if i < 0 || !b.Rows[i].Busy {
			deeds := deedsOf(who, oneOf(r, 1, 900))
			orders = append(orders, deeds[r.Intn(len(deeds))])
		}
		if i >= 0 && !b.Rows[i].Busy {
			orders = append(orders, impl.OrdOrder{Who: who, Seq: b.Rows[i].Seq, Kind: 6}, impl.OrdOrder{Who: who, Seq: b.Rows[i].Seq + 1, Kind: 6})
		}
		if i >= 0 && b.Rows[i].Busy {
			near := nearOrders(b.Rows[i].Order)
			orders = append(orders, b.Rows[i].Order, near[r.Intn(len(near))], near[r.Intn(len(near))])
		}
	}
	var list []impl.MsgMsg
	for _, o := range orders {
		for cell := range m.Cells {
			if orderOkPlainly(o) {
				list = append(list, awayOf(cell, o), toldOf(cell, o, 1+r.Intn(9)))
			}
		}
	}
	return list
}

// gateBook is a book on the map of the messages that is ok: the walkers 2 and 7 have an order under way, 4 and 9 have none.
func gateBook() impl.GwyBook {
	return impl.GwyBook{Rows: []impl.GwyRow{
		{Who: 2, Cell: 0, Busy: true, Order: impl.OrdOrder{Who: 2, Seq: 6, Kind: impl.OrdGive, To: 7, N: 3}, Seq: 5, Code: 4},
		{Who: 4, Cell: 1, Seq: 8, Code: 2},
		{Who: 7, Cell: 2, Busy: true, Order: impl.OrdOrder{Who: 7, Seq: 1, Kind: impl.OrdStep, To: 1}},
		{Who: 9, Cell: 2, Seq: 900, Code: 9},
	}}
}

// gateTable is a table for that book, of 2 servers, that both have a cell, and nobody the one in the middle.
func gateTable() impl.ArbTable {
	return impl.ArbTable{Servers: []int{1, -1, 0}, Ages: []int{3, 0, 900}}
}

// gateMessages is messages of every Kind that are ok for that book: those that turn it, and those of which nothing comes.
func gateMessages() []impl.MsgMsg {
	first, second := gateBook().Rows[0].Order, gateBook().Rows[2].Order
	list := append(goodMessages(), toldOf(1, first, 1), awayOf(0, first), awayOf(2, second), toldOf(0, second, 9), askOf(0, 0, first), askOf(1, 2, second))
	return append(list, toldOf(1, impl.OrdOrder{Who: 4, Seq: 9, Kind: 6}, 1), awayOf(1, impl.OrdOrder{Who: 1, Seq: 1, Kind: 6}))
}

// wrongBooks is, by what is wrong, books that are not ok on the map of the messages, for each clause of the chapter by itself.
func wrongBooks() map[string]impl.GwyBook {
	wrong := map[string]impl.GwyBook{"a row of nothing": {Rows: []impl.GwyRow{{}}}}
	for i := range gateBook().Rows {
		in := " in the row " + strconv.Itoa(i)
		row := func(why string, turn func(*impl.GwyRow)) {
			b := gateBook()
			turn(&b.Rows[i])
			wrong[why+in] = b
			// Alone it has no other row beside that it might not rise.
			wrong[why+in+", alone"] = impl.GwyBook{Rows: []impl.GwyRow{b.Rows[i]}}
		}
		addWrongNumbersOfRows(row)
		if gateBook().Rows[i].Busy {
			addWrongOrdersOfRows(row)
		} else {
			addOrdersOfNoRow(row)
		}
	}
	addBooksThatDoNotRise(wrong)
	return wrong
}

type rowAdder = func(why string, turn func(*impl.GwyRow))

func addWrongNumbersOfRows(row rowAdder) {
	for _, who := range append([]int{-1, 0, 10, 11}, farNumbers...) {
		row("Who "+strconv.Itoa(who), func(row *impl.GwyRow) { row.Who = who })
		row("Who of the order too "+strconv.Itoa(who), func(row *impl.GwyRow) {
			row.Who = who
			if row.Busy {
				row.Order.Who = who
			}
		})
	}
	for _, cell := range append([]int{-1, 3, 4}, farNumbers...) {
		row("Cell "+strconv.Itoa(cell), func(row *impl.GwyRow) { row.Cell = cell })
	}
	for _, seq := range append([]int{-2, -1, 901, 902}, farNumbers...) {
		row("Seq "+strconv.Itoa(seq), func(row *impl.GwyRow) { row.Seq = seq })
		row("Seq of the order too "+strconv.Itoa(seq), func(row *impl.GwyRow) {
			row.Seq = seq
			if row.Busy {
				row.Order.Seq = seq + 1
			}
		})
	}
	for _, code := range append([]int{-1, 10, 11}, farNumbers...) {
		row("Code "+strconv.Itoa(code), func(row *impl.GwyRow) { row.Code = code })
	}
}

func addWrongOrdersOfRows(row rowAdder) {
	row("Busy without an order", func(row *impl.GwyRow) { row.Order = impl.OrdOrder{} })
	row("not Busy with its order", func(row *impl.GwyRow) { row.Busy = false })
	row("an order for another walker", func(row *impl.GwyRow) { row.Order.Who = 5 })
	row("an order with Seq as it is", func(row *impl.GwyRow) { row.Order.Seq = row.Seq })
	row("an order with Seq and 2", func(row *impl.GwyRow) { row.Order.Seq = row.Seq + 2 })
	row("an order with 0", func(row *impl.GwyRow) { row.Order.Seq = 0 })
	row("an order past the last one", func(row *impl.GwyRow) { row.Seq, row.Order.Seq = 900, 901 })
	row("an order with the last number again", func(row *impl.GwyRow) { row.Seq, row.Order.Seq = 900, 900 })
	row("an order of the Kind 0", func(row *impl.GwyRow) { row.Order.Kind = 0 })
	row("an order of the Kind 7", func(row *impl.GwyRow) { row.Order.Kind = 7 })
	row("an order with N below 0", func(row *impl.GwyRow) { row.Order.N = -1 })
	row("an order with N past its end", func(row *impl.GwyRow) { row.Order.N = 10 })
	row("an order to nobody", func(row *impl.GwyRow) { row.Order.To = -1 })
	row("an order to who is none", func(row *impl.GwyRow) { row.Order.To = 10 })
	row("a rest with more", func(row *impl.GwyRow) { row.Order.Kind, row.Order.To, row.Order.N = 6, 0, 1 })
	row("a gift to itself", func(row *impl.GwyRow) { row.Order.Kind, row.Order.To, row.Order.N = 2, row.Who, 1 })
}

func addOrdersOfNoRow(row rowAdder) {
	row("Busy with nothing", func(row *impl.GwyRow) { row.Busy = true })
	row("its next order, not Busy", func(row *impl.GwyRow) { row.Order = impl.OrdOrder{Who: row.Who, Seq: row.Seq + 1, Kind: 6} })
	row("its last order, not Busy", func(row *impl.GwyRow) { row.Order = impl.OrdOrder{Who: row.Who, Seq: row.Seq, Kind: 6} })
	row("half an order: Who", func(row *impl.GwyRow) { row.Order.Who = row.Who })
	row("half an order: Seq", func(row *impl.GwyRow) { row.Order.Seq = 1 })
	row("half an order: Kind", func(row *impl.GwyRow) { row.Order.Kind = 6 })
	row("half an order: To", func(row *impl.GwyRow) { row.Order.To = -1 })
	row("half an order: N", func(row *impl.GwyRow) { row.Order.N = 1 })
}

func addBooksThatDoNotRise(wrong map[string]impl.GwyBook) {
	for i := range len(gateBook().Rows) - 1 {
		at := " at " + strconv.Itoa(i)
		b := gateBook()
		b.Rows[i], b.Rows[i+1] = b.Rows[i+1], b.Rows[i]
		wrong["the other way round"+at] = b
		b = gateBook()
		wrong["the same row twice"+at] = impl.GwyBook{Rows: slices.Insert(b.Rows, i, b.Rows[i])}
		b = gateBook()
		other := impl.GwyRow{Who: b.Rows[i].Who, Cell: 1, Seq: 77}
		wrong["two of one number"+at] = impl.GwyBook{Rows: slices.Insert(b.Rows, i, other)}
	}
	b := gateBook()
	wrong["the first one last"] = impl.GwyBook{Rows: append(b.Rows[1:], b.Rows[0])}
	b = gateBook()
	slices.Reverse(b.Rows)
	wrong["all the other way round"] = b
}
