package tests

import (
	"math/rand"
	"slices"
	"testing"

	"loop.example/landmarch/impl"
)

// sameCell holds cells against each other; the empty list and the nil list are the same.
func sameCell(a, b impl.CllCell) bool {
	return a.Cell == b.Cell && a.Ground == b.Ground &&
		slices.Equal(a.Walkers, b.Walkers) &&
		slices.EqualFunc(a.Outs, b.Outs, slices.Equal[[]impl.PclParcel]) &&
		slices.Equal(a.Next, b.Next) && slices.Equal(a.Ins, b.Ins)
}

// isNothing is whether a cell is the zero value, all lists empty.
func isNothing(c impl.CllCell) bool {
	return sameCell(c, impl.CllCell{})
}

// cloneCell is the same cell in new memory.
func cloneCell(c impl.CllCell) impl.CllCell {
	c.Walkers = slices.Clone(c.Walkers)
	c.Outs = slices.Clone(c.Outs)
	for i := range c.Outs {
		c.Outs[i] = slices.Clone(c.Outs[i])
	}
	c.Next = slices.Clone(c.Next)
	c.Ins = slices.Clone(c.Ins)
	return c
}

// cellTurn is what turns in a cell.
type cellTurn = func(*impl.CllCell)

// turnedCell is the cell with something turned in it.
func turnedCell(c impl.CllCell, turns ...cellTurn) impl.CllCell {
	c = cloneCell(c)
	for _, turn := range turns {
		turn(&c)
	}
	return c
}

// bareCell is a cell with noughts.
func bareCell(cell int) impl.CllCell {
	return impl.CllCell{Cell: cell, Outs: make([][]impl.PclParcel, 2), Next: make([]int, 2), Ins: make([]int, 2)}
}

// oneOf is one of some numbers.
func oneOf(r *rand.Rand, numbers ...int) int {
	return numbers[r.Intn(len(numbers))]
}

// walkerIn is a walker that is ok, in a cell: often at its edges, with few coins or with many.
func walkerIn(r *rand.Rand, m impl.PlcMap, cell, id int) impl.WlkWalker {
	first := cell * m.Width
	return impl.WlkWalker{
		Id:    id,
		At:    oneOf(r, first, first+m.Width-1, first+r.Intn(m.Width)),
		Coins: oneOf(r, 0, 1, 5, 9, 50, 90, 94, 98, 99),
		Seq:   oneOf(r, 0, 1, 2, 450, 898, 899),
		Last:  r.Intn(10),
	}
}

// anyOkCell is a cell that is ok, its numbers often at the ends of their bounds.
func anyOkCell(r *rand.Rand, m impl.PlcMap, cell int) impl.CllCell {
	c := bareCell(cell)
	c.Ground = oneOf(r, 0, 1, 4, 8, 9, 450, 891, 895, 899, 900)
	for id := 1; id <= 9; id++ {
		if r.Intn(2) == 0 {
			c.Walkers = append(c.Walkers, walkerIn(r, m, cell, id))
		}
	}
	for side := range 2 {
		there := besidePlainly(m, cell, side)
		if there == -1 {
			continue
		}
		c.Next[side] = oneOf(r, 0, 1, 3, 6, 4998, 4999, 5000)
		c.Ins[side] = oneOf(r, 0, 1, 2, 4998, 4999, 5000)
		for n := c.Next[side] - r.Intn(min(c.Next[side], 4)+1); n < c.Next[side]; n++ {
			c.Outs[side] = append(c.Outs[side], parcelInto(r, m, there, n))
		}
	}
	return c
}

// parcelInto is a parcel that is ok, of coins or of a walker at a place of a cell.
func parcelInto(r *rand.Rand, m impl.PlcMap, cell, n int) impl.PclParcel {
	if r.Intn(2) == 0 {
		return impl.PclParcel{N: n, Kind: 2, Coins: 1 + r.Intn(9)}
	}
	return impl.PclParcel{N: n, Kind: 1, Walker: walkerIn(r, m, cell, 1+r.Intn(9))}
}

// eachOkCell is cells that are ok, so many of each cell of some maps.
func eachOkCell(t *testing.T, seed int64, count int, each func(m impl.PlcMap, c impl.CllCell)) {
	t.Helper()
	r := rand.New(rand.NewSource(seed))
	for _, m := range []impl.PlcMap{{Cells: 2, Width: 2}, {Cells: 3, Width: 3}, {Cells: 4, Width: 8}} {
		for cell := range m.Cells {
			for range count {
				c := anyOkCell(r, m, cell)
				if !cellOkPlainly(m, c) {
					t.Fatalf("the test's own cell %+v is not ok", c)
				}
				each(m, c)
			}
		}
	}
}

// deedsOf is all orders of a walker that are ok, with a Seq.
func deedsOf(who, seq int) []impl.OrdOrder {
	orders := []impl.OrdOrder{{Kind: 1, To: 0}, {Kind: 1, To: 1}, {Kind: 6}}
	for n := 1; n <= 9; n++ {
		orders = append(orders, impl.OrdOrder{Kind: 3, N: n}, impl.OrdOrder{Kind: 4, N: n}, impl.OrdOrder{Kind: 5, To: 0, N: n}, impl.OrdOrder{Kind: 5, To: 1, N: n})
		for to := 1; to <= 9; to++ {
			if to != who {
				orders = append(orders, impl.OrdOrder{Kind: 2, To: to, N: n})
			}
		}
	}
	for i := range orders {
		orders[i].Who, orders[i].Seq = who, seq
	}
	return orders
}

// eachFresh is, of so many cells, all orders that are fresh, each with the next number of its walker.
func eachFresh(t *testing.T, seed int64, count int, each func(m impl.PlcMap, c impl.CllCell, o impl.OrdOrder)) {
	t.Helper()
	eachOkCell(t, seed, count, func(m impl.PlcMap, c impl.CllCell) {
		for _, w := range c.Walkers {
			for _, o := range deedsOf(w.Id, w.Seq+1) {
				each(m, c, o)
			}
		}
	})
}

// wrongOrders is orders that are not ok, each number of them in and out of its bounds.
func wrongOrders() []impl.OrdOrder {
	deeds := everyDeed()
	var wrong []impl.OrdOrder
	for _, who := range []int{-1, 0, 1, 9, 10} {
		for _, seq := range []int{-1, 0, 1, 900, 901} {
			for kind := -1; kind <= 8; kind++ {
				for _, to := range []int{-1, 0, 1, 2, 9, 10} {
					for _, n := range []int{-1, 0, 1, 9, 10} {
						deed := impl.OrdOrder{Who: who, Kind: kind, To: to, N: n}
						if _, ok := deeds[deed]; !ok || seq < 1 || seq > 900 {
							deed.Seq = seq
							wrong = append(wrong, deed)
						}
					}
				}
			}
		}
	}
	return wrong
}
