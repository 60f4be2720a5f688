package tests

import (
	"strconv"
	"testing"

	"loop.example/landmarch/impl"
)

// wrongCells is, by what is wrong, cells that are not ok, for each clause of the chapter by itself; the one that is given is ok, in the middle of its map.
func wrongCells(m impl.PlcMap, c impl.CllCell) map[string]impl.CllCell {
	wrong := map[string]impl.CllCell{"nothing": {}}
	add := func(why string, turn cellTurn) { wrong[why] = turnedCell(c, turn) }
	add("no Outs", func(c *impl.CllCell) { c.Outs = nil })
	add("no Next", func(c *impl.CllCell) { c.Next = nil })
	add("no Ins", func(c *impl.CllCell) { c.Ins = nil })
	add("one of Outs", func(c *impl.CllCell) { c.Outs = c.Outs[:1] })
	add("one of Next", func(c *impl.CllCell) { c.Next = c.Next[:1] })
	add("one of Ins", func(c *impl.CllCell) { c.Ins = c.Ins[:1] })
	add("three of Outs", func(c *impl.CllCell) { c.Outs = append(c.Outs, nil) })
	add("three of Next", func(c *impl.CllCell) { c.Next = append(c.Next, 0) })
	add("three of Ins", func(c *impl.CllCell) { c.Ins = append(c.Ins, 0) })
	for _, n := range append([]int{-1, 901}, farNumbers...) {
		add("Ground "+strconv.Itoa(n), func(c *impl.CllCell) { c.Ground = n })
	}
	for _, n := range append([]int{-1, m.Cells, m.Cells + 1}, farNumbers...) {
		add("Cell "+strconv.Itoa(n), func(c *impl.CllCell) { c.Cell = n })
		wrong["Cell with noughts "+strconv.Itoa(n)] = bareCell(n)
	}
	addWrongWalkers(wrong, m, c)
	for side := range 2 {
		addWrongNumbers(wrong, m, c, side)
		addWrongParcels(wrong, m, c, side)
		addWrongEnd(wrong, m, side)
	}
	return wrong
}

// addWrongWalkers adds the cell with walkers that are not ok, or not all in it.
func addWrongWalkers(wrong map[string]impl.CllCell, m impl.PlcMap, c impl.CllCell) {
	first := c.Cell * m.Width
	one := impl.WlkWalker{Id: 3, At: first}
	two := impl.WlkWalker{Id: 5, At: first + m.Width - 1}
	add := func(why string, walkers ...impl.WlkWalker) {
		wrong["walkers: "+why] = turnedCell(c, func(c *impl.CllCell) { c.Walkers = walkers })
	}
	add("they fall", two, one)
	add("one twice", one, one)
	for _, at := range []int{first - 1, first + m.Width, -1, m.Cells * m.Width} {
		add("the first one at "+strconv.Itoa(at), impl.WlkWalker{Id: 3, At: at}, two)
		add("the last one at "+strconv.Itoa(at), one, impl.WlkWalker{Id: 5, At: at})
	}
	for _, bound := range walkerBounds {
		for _, n := range []int{bound.low - 1, bound.high + 1} {
			w := two
			bound.set(&w, n)
			add(bound.name+" "+strconv.Itoa(n), w)
		}
	}
}

// twoParcels lets two parcels be on their way to a side, with the numbers 2 and 3.
func twoParcels(m impl.PlcMap, c impl.CllCell, side int) impl.CllCell {
	there := c.Cell + 2*side - 1
	return turnedCell(c, func(c *impl.CllCell) {
		c.Outs[side] = []impl.PclParcel{{N: 2, Kind: 1, Walker: impl.WlkWalker{Id: 1, At: there * m.Width}}, {N: 3, Kind: 2, Coins: 4}}
		c.Next[side], c.Ins[side] = 4, 1
	})
}

// addWrongNumbers adds the cell with Next or Ins that are not ok, with parcels and without.
func addWrongNumbers(wrong map[string]impl.CllCell, m impl.PlcMap, c impl.CllCell, side int) {
	good := twoParcels(m, c, side)
	add := func(why string, n int, turn cellTurn) {
		wrong["side "+strconv.Itoa(side)+": "+why+" "+strconv.Itoa(n)] = turnedCell(good, turn)
	}
	for _, n := range append([]int{-1, 0, 1, 2, 3, 5, 5000, 5001}, farNumbers...) {
		add("Next", n, func(c *impl.CllCell) { c.Next[side] = n })
	}
	for _, n := range append([]int{-1, 5001}, farNumbers...) {
		add("Next without parcels", n, func(c *impl.CllCell) { c.Outs[side], c.Next[side] = nil, n })
		add("Ins", n, func(c *impl.CllCell) { c.Ins[side] = n })
	}
}

// addWrongParcels adds the cell with parcels that are not ok, or whose walker is elsewhere.
func addWrongParcels(wrong map[string]impl.CllCell, m impl.PlcMap, c impl.CllCell, side int) {
	good := twoParcels(m, c, side)
	add := func(why string, turn cellTurn) {
		wrong["parcels to "+strconv.Itoa(side)+": "+why] = turnedCell(good, turn)
	}
	add("the last one is left out", func(c *impl.CllCell) { c.Outs[side] = c.Outs[side][:1] })
	add("the wrong way round", func(c *impl.CllCell) { c.Outs[side][0], c.Outs[side][1] = c.Outs[side][1], c.Outs[side][0] })
	add("nothing", func(c *impl.CllCell) { c.Outs[side][1] = impl.PclParcel{N: 3} })
	add("too many coins", func(c *impl.CllCell) { c.Outs[side][1].Coins = 10 })
	add("no coins", func(c *impl.CllCell) { c.Outs[side][1].Coins = 0 })
	add("a walker that is not ok", func(c *impl.CllCell) { c.Outs[side][0].Walker.Coins = 100 })
	for at := -1; at <= m.Cells*m.Width; at++ {
		if inCellPlainly(m, c.Cell+2*side-1, at) {
			continue
		}
		add("a walker at "+strconv.Itoa(at), func(c *impl.CllCell) { c.Outs[side][0].Walker.At = at })
		add("the last one a walker at "+strconv.Itoa(at), func(c *impl.CllCell) {
			c.Outs[side][1] = impl.PclParcel{N: 3, Kind: 1, Walker: impl.WlkWalker{Id: 1, At: at}}
		})
	}
}

// addWrongEnd adds cells at the end of the map with something for the side on which there is none.
func addWrongEnd(wrong map[string]impl.CllCell, m impl.PlcMap, side int) {
	add := func(why string, turn cellTurn) {
		wrong["no cell on "+strconv.Itoa(side)+": "+why] = turnedCell(bareCell(side*(m.Cells-1)), turn)
	}
	coins := []impl.PclParcel{{N: 0, Kind: 2, Coins: 1}}
	walker := []impl.PclParcel{{N: 0, Kind: 1, Walker: impl.WlkWalker{Id: 1, At: m.Width}}}
	add("Next", func(c *impl.CllCell) { c.Next[side] = 1 })
	add("Ins", func(c *impl.CllCell) { c.Ins[side] = 1 })
	add("both", func(c *impl.CllCell) { c.Next[side], c.Ins[side] = 1, 1 })
	add("coins", func(c *impl.CllCell) { c.Outs[side], c.Next[side] = coins, 1 })
	add("a walker", func(c *impl.CllCell) { c.Outs[side], c.Next[side] = walker, 1 })
	add("a parcel, and Next 0", func(c *impl.CllCell) { c.Outs[side] = coins })
}

// askNothing asks what each function answers of a cell that is not ok, or on a map that is not.
func askNothing(t *testing.T, why string, m impl.PlcMap, c impl.CllCell) {
	t.Helper()
	if impl.CllOk(m, c) {
		t.Errorf("%s: CllOk(%v, %+v) is true", why, m, c)
	}
	if n := impl.CllCoins(m, c); n != 0 {
		t.Errorf("%s: CllCoins(%v, %+v) is %d", why, m, c, n)
	}
	for _, o := range []impl.OrdOrder{{Who: 3, Seq: 900, Kind: 6}, {Who: 8, Seq: 1, Kind: 6}, {Who: 5, Seq: 900, Kind: 1, To: 1}, {Who: 5, Seq: 900, Kind: 5, To: 1, N: 1}, {}} {
		if got, code := impl.CllDo(m, c, o); !isNothing(got) || code != 0 {
			t.Errorf("%s: CllDo(%v, %+v, %v) is %+v, %d", why, m, c, o, got, code)
		}
		if impl.CllFresh(m, c, o) {
			t.Errorf("%s: CllFresh(%v, %+v, %v) is true", why, m, c, o)
		}
	}
	for side := -1; side <= 2; side++ {
		for n := range 4 {
			if got, ok := impl.CllIn(m, c, side, impl.PclParcel{N: n, Kind: 2, Coins: 1}); !isNothing(got) || ok {
				t.Errorf("%s: CllIn(%v, %+v, %d) is %+v, %v", why, m, c, side, got, ok)
			}
			if got, ok := impl.CllAck(m, c, side, n); !isNothing(got) || ok {
				t.Errorf("%s: CllAck(%v, %+v, %d, %d) is %+v, %v", why, m, c, side, n, got, ok)
			}
		}
	}
}
