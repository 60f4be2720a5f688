package tests

import (
	"slices"

	"loop.example/landmarch/impl"
)

// Chapter 5 in the document's words, case by case, with its numbers written out: what the program is held against.

// besidePlainly is the cell on a side; -1, if there is none.
func besidePlainly(m impl.PlcMap, cell, side int) int {
	switch {
	case side == 0 && cell > 0:
		return cell - 1
	case side == 1 && cell < m.Cells-1:
		return cell + 1
	}
	return -1
}

// inCellPlainly is whether a place lies in a cell; none does in the cell -1.
func inCellPlainly(m impl.PlcMap, cell, at int) bool {
	return cell >= 0 && cell < m.Cells && at >= cell*m.Width && at < (cell+1)*m.Width
}

// cellOkPlainly is of a map that is ok.
func cellOkPlainly(m impl.PlcMap, c impl.CllCell) bool {
	if c.Cell < 0 || c.Cell >= m.Cells || c.Ground < 0 || c.Ground > 900 {
		return false
	}
	if len(c.Outs) != 2 || len(c.Next) != 2 || len(c.Ins) != 2 || !impl.WlkListOk(m, c.Walkers) {
		return false
	}
	for _, w := range c.Walkers {
		if !inCellPlainly(m, c.Cell, w.At) {
			return false
		}
	}
	return sideOkPlainly(m, c, 0) && sideOkPlainly(m, c, 1)
}

func sideOkPlainly(m impl.PlcMap, c impl.CllCell, side int) bool {
	if !impl.PclListOk(m, c.Outs[side], c.Next[side]) || c.Ins[side] < 0 || c.Ins[side] > 5000 {
		return false
	}
	there := besidePlainly(m, c.Cell, side)
	if there == -1 && (c.Next[side] != 0 || c.Ins[side] != 0) {
		return false
	}
	for _, p := range c.Outs[side] {
		if p.Kind == 1 && !inCellPlainly(m, there, p.Walker.At) {
			return false
		}
	}
	return true
}

// placeOf is where among the cell's walkers one of a number stands; -1, if it is not there.
func placeOf(c impl.CllCell, id int) int {
	return slices.IndexFunc(c.Walkers, func(w impl.WlkWalker) bool { return w.Id == id })
}

// freshPlainly, doPlainly and codePlainly are of a cell and an order that are ok.
func freshPlainly(c impl.CllCell, o impl.OrdOrder) bool {
	i := placeOf(c, o.Who)
	return i >= 0 && o.Seq > c.Walkers[i].Seq
}

func doPlainly(m impl.PlcMap, c impl.CllCell, o impl.OrdOrder) (impl.CllCell, int) {
	c = cloneCell(c)
	i := placeOf(c, o.Who)
	if i < 0 {
		return c, 9
	}
	if o.Seq < c.Walkers[i].Seq {
		return c, 8
	}
	if o.Seq == c.Walkers[i].Seq {
		return c, c.Walkers[i].Last
	}
	code := codePlainly(m, c, o)
	w := &c.Walkers[i]
	w.Seq, w.Last = o.Seq, code
	if code != 1 {
		return c, code
	}
	switch o.Kind {
	case 1:
		w.At += 2*o.To - 1
		if !inCellPlainly(m, c.Cell, w.At) {
			c.Outs[o.To] = append(c.Outs[o.To], impl.PclParcel{N: c.Next[o.To], Kind: 1, Walker: *w})
			c.Next[o.To]++
			c.Walkers = slices.Delete(c.Walkers, i, i+1)
		}
	case 2:
		w.Coins -= o.N
		c.Walkers[placeOf(c, o.To)].Coins += o.N
	case 3:
		w.Coins -= o.N
		c.Ground += o.N
	case 4:
		w.Coins += o.N
		c.Ground -= o.N
	case 5:
		w.Coins -= o.N
		c.Outs[o.To] = append(c.Outs[o.To], impl.PclParcel{N: c.Next[o.To], Kind: 2, Coins: o.N})
		c.Next[o.To]++
	}
	return c, 1
}

func codePlainly(m impl.PlcMap, c impl.CllCell, o impl.OrdOrder) int {
	w := c.Walkers[placeOf(c, o.Who)]
	to := w.At + 2*o.To - 1
	inner, none := inCellPlainly(m, c.Cell, to), to < 0 || to >= m.Cells*m.Width
	other := placeOf(c, o.To)
	switch {
	case o.Kind == 1 && (none || !inner && c.Next[o.To] == 5000):
		return 2
	case o.Kind == 2 && other < 0:
		return 4
	case o.Kind == 5 && (inner || none):
		return 7
	case (o.Kind == 2 || o.Kind == 3 || o.Kind == 5) && w.Coins < o.N:
		return 3
	case o.Kind == 4 && c.Ground < o.N:
		return 6
	case o.Kind == 2 && c.Walkers[other].Coins+o.N > 99,
		o.Kind == 3 && c.Ground+o.N > 900,
		o.Kind == 4 && w.Coins+o.N > 99,
		o.Kind == 5 && c.Next[o.To] == 5000:
		return 5
	}
	return 1
}

// inPlainly is of a cell that is ok, and any side and parcel.
func inPlainly(m impl.PlcMap, c impl.CllCell, side int, p impl.PclParcel) (impl.CllCell, bool) {
	if !parcelOkPlainly(m, p) || besidePlainly(m, c.Cell, side) == -1 {
		return impl.CllCell{}, false
	}
	c = cloneCell(c)
	if p.N != c.Ins[side] {
		return c, false
	}
	if p.Kind == 2 {
		if c.Ground+p.Coins > 900 {
			return c, false
		}
		c.Ground += p.Coins
	} else {
		if placeOf(c, p.Walker.Id) >= 0 || !inCellPlainly(m, c.Cell, p.Walker.At) {
			return c, false
		}
		c.Walkers = putPlainly(c.Walkers, p.Walker)
	}
	c.Ins[side]++
	return c, true
}

// ackPlainly is of a cell that is ok, and any side and number.
func ackPlainly(m impl.PlcMap, c impl.CllCell, side, n int) (impl.CllCell, bool) {
	if besidePlainly(m, c.Cell, side) == -1 {
		return impl.CllCell{}, false
	}
	c = cloneCell(c)
	if n > c.Next[side] || len(c.Outs[side]) == 0 || c.Outs[side][0].N >= n {
		return c, false
	}
	c.Outs[side] = fromPlainly(c.Outs[side], n)
	return c, true
}

// coinsPlainly is of a cell that is ok.
func coinsPlainly(c impl.CllCell) int {
	sum := c.Ground
	for _, w := range c.Walkers {
		sum += w.Coins
	}
	for _, p := range slices.Concat(c.Outs...) {
		switch p.Kind {
		case 1:
			sum += p.Walker.Coins
		case 2:
			sum += p.Coins
		}
	}
	return sum
}
