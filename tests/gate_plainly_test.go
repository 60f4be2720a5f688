package tests

import (
	"slices"

	"loop.example/landmarch/impl"
)

// Chapter 12 in the document's words, with its numbers written out: what the program is held against.

// okDeeds is each order that is ok, with Seq 0.
var okDeeds = everyDeed()

func orderOkPlainly(o impl.OrdOrder) bool {
	deed := o
	deed.Seq = 0
	_, ok := okDeeds[deed]
	return ok && o.Seq >= 1 && o.Seq <= 900
}

// bookOkPlainly is of a map that is ok.
func bookOkPlainly(m impl.PlcMap, b impl.GwyBook) bool {
	for i, row := range b.Rows {
		if row.Who < 1 || row.Who > 9 || row.Cell < 0 || row.Cell >= m.Cells || row.Seq < 0 || row.Seq > 900 || row.Code < 0 || row.Code > 9 {
			return false
		}
		for _, before := range b.Rows[:i] {
			if before.Who >= row.Who {
				return false
			}
		}
		if !row.Busy && row.Order != (impl.OrdOrder{}) {
			return false
		}
		if row.Busy && !(orderOkPlainly(row.Order) && row.Order.Who == row.Who && row.Order.Seq == row.Seq+1) {
			return false
		}
	}
	return true
}

// newBookPlainly is of a map and walkers that are ok.
func newBookPlainly(m impl.PlcMap, list []impl.WlkWalker) impl.GwyBook {
	var b impl.GwyBook
	for _, w := range list {
		b.Rows = append(b.Rows, impl.GwyRow{Who: w.Id, Cell: cellsOfPlaces(m)[w.At], Seq: w.Seq, Code: w.Last})
	}
	return b
}

// rowOf is the place of a walker's row; -1, if it has none.
func rowOf(b impl.GwyBook, who int) int {
	return slices.IndexFunc(b.Rows, func(row impl.GwyRow) bool { return row.Who == who })
}

// takePlainly is GwyAsk of a book that is ok; what of the order counts is all but its Seq.
func takePlainly(b impl.GwyBook, o impl.OrdOrder) (impl.GwyBook, bool) {
	i := rowOf(b, o.Who)
	if i < 0 || b.Rows[i].Busy {
		return b, false
	}
	o.Seq = b.Rows[i].Seq + 1
	if !orderOkPlainly(o) {
		return b, false
	}
	b = cloneBook(b)
	b.Rows[i].Busy = true
	b.Rows[i].Order = o
	return b, true
}

// sayPlainly is GwySay of a book and a table that are ok.
func sayPlainly(b impl.GwyBook, t impl.ArbTable, who int) (impl.MsgMsg, bool) {
	for _, row := range b.Rows {
		if row.Who == who && row.Busy && t.Servers[row.Cell] != -1 {
			return impl.MsgMsg{Kind: 2, To: t.Servers[row.Cell], Cell: row.Cell, Order: row.Order}, true
		}
	}
	return impl.MsgMsg{}, false
}

// gateHearPlainly is GwyHear of a book and a message that are ok.
func gateHearPlainly(m impl.PlcMap, b impl.GwyBook, x impl.MsgMsg) (impl.GwyBook, bool) {
	i := rowOf(b, x.Order.Who)
	if i < 0 || !b.Rows[i].Busy || b.Rows[i].Order != x.Order {
		return b, false
	}
	b = cloneBook(b)
	row := &b.Rows[i]
	switch x.Kind {
	case 3:
		row.Busy = false
		row.Order = impl.OrdOrder{}
		row.Cell = x.Cell
		row.Seq = x.Order.Seq
		row.Code = x.N
		return b, true
	case 4:
		if row.Cell == x.Cell {
			row.Cell++
			if row.Cell == m.Cells {
				row.Cell = 0
			}
		}
	}
	return b, false
}
