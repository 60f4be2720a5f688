package tests

import (
	"testing"

	"loop.example/landmarch/impl"
)

// orderRow is an order in a cell that is set up by a turn, the code that it has, and what turns by it beside the walker's Seq and Last.
type orderRow struct {
	why   string
	set   cellTurn
	order impl.OrdOrder
	code  int
	turns cellTurn
}

// codesMap has the places 0..3, 4..7 and 8..11 in its cells.
var codesMap = impl.PlcMap{Cells: 3, Width: 4}

// codesCell is the cell in the middle: the walker 1 at its left edge, 2 inside, 3 at its right edge.
func codesCell() impl.CllCell {
	c := bareCell(1)
	c.Walkers = []impl.WlkWalker{{Id: 1, At: 4, Coins: 10}, {Id: 2, At: 5, Coins: 10}, {Id: 3, At: 7, Coins: 10}}
	c.Ground = 10
	return c
}

// leftCell and rightCell set up the ones at the ends of the map, with a walker 1 at its end and 2 at the edge.
func leftCell(c *impl.CllCell) {
	*c = bareCell(0)
	c.Walkers = []impl.WlkWalker{{Id: 1, At: 0, Coins: 10}, {Id: 2, At: 3, Coins: 10}}
}

func rightCell(c *impl.CllCell) {
	*c = bareCell(2)
	c.Walkers = []impl.WlkWalker{{Id: 1, At: 11, Coins: 10}, {Id: 2, At: 8, Coins: 10}}
}

func nothingTurns(*impl.CllCell) {}

// nextIs sets Next of a side.
func nextIs(side, n int) cellTurn {
	return func(c *impl.CllCell) { c.Next[side] = n }
}

// has sets a walker's coins.
func has(who, coins int) cellTurn {
	return func(c *impl.CllCell) { c.Walkers[placeOf(*c, who)].Coins = coins }
}

// groundIs sets the coins on the ground.
func groundIs(coins int) cellTurn {
	return func(c *impl.CllCell) { c.Ground = coins }
}

// both is several turns in order.
func both(turns ...cellTurn) cellTurn {
	return func(c *impl.CllCell) {
		for _, turn := range turns {
			turn(c)
		}
	}
}

// gone is that a walker went to a side, to a place.
func gone(who, side, at int) cellTurn {
	return func(c *impl.CllCell) {
		i := placeOf(*c, who)
		w := c.Walkers[i]
		w.At = at
		c.Outs[side] = append(c.Outs[side], impl.PclParcel{N: c.Next[side], Kind: impl.PclWalker, Walker: w})
		c.Next[side]++
		c.Walkers = append(c.Walkers[:i], c.Walkers[i+1:]...)
	}
}

// thrown is that a walker has so many coins left, and so many went to a side.
func thrown(who, left, side, coins int) cellTurn {
	return both(has(who, left), func(c *impl.CllCell) {
		c.Outs[side] = append(c.Outs[side], impl.PclParcel{N: c.Next[side], Kind: impl.PclCoins, Coins: coins})
		c.Next[side]++
	})
}

func stepOf(who, side int) impl.OrdOrder {
	return impl.OrdOrder{Who: who, Kind: impl.OrdStep, To: side}
}
func giveOf(who, to, n int) impl.OrdOrder {
	return impl.OrdOrder{Who: who, Kind: impl.OrdGive, To: to, N: n}
}
func dropOf(who, n int) impl.OrdOrder { return impl.OrdOrder{Who: who, Kind: impl.OrdDrop, N: n} }
func pickOf(who, n int) impl.OrdOrder { return impl.OrdOrder{Who: who, Kind: impl.OrdPick, N: n} }
func throwOf(who, side, n int) impl.OrdOrder {
	return impl.OrdOrder{Who: who, Kind: impl.OrdThrow, To: side, N: n}
}

// askRows asks for rows: each order has the Seq 900, and the walker had any number below.
func askRows(t *testing.T, rows []orderRow) {
	t.Helper()
	for _, row := range rows {
		for seq := range 2 {
			c := turnedCell(codesCell(), row.set)
			o := row.order
			o.Seq = 900
			w := &c.Walkers[placeOf(c, o.Who)]
			w.Seq, w.Last = 899*seq, 7*seq
			want := turnedCell(c, func(c *impl.CllCell) {
				w := &c.Walkers[placeOf(*c, o.Who)]
				w.Seq, w.Last = 900, row.code
			}, row.turns)
			if !impl.CllFresh(codesMap, c, o) {
				t.Errorf("%s: CllFresh(%+v, %v) is false", row.why, c, o)
			}
			if got, code := impl.CllDo(codesMap, c, o); code != row.code || !sameCell(got, want) {
				t.Errorf("%s: CllDo(%+v, %v) is\n%+v, %d, not\n%+v, %d", row.why, c, o, got, code, want, row.code)
			}
		}
	}
}

func TestP50CodesOfSteps(t *testing.T) {
	at := func(who, at int) cellTurn {
		return func(c *impl.CllCell) { c.Walkers[placeOf(*c, who)].At = at }
	}
	inOuts := func(c *impl.CllCell) {
		c.Outs[1], c.Next[1] = []impl.PclParcel{{N: 6, Kind: impl.PclWalker, Walker: impl.WlkWalker{Id: 3, At: 8}}}, 7
	}
	askRows(t, []orderRow{
		{"inside, to the left, where another one is", nothingTurns, stepOf(2, 0), impl.CodeDone, at(2, 4)},
		{"inside, to the right", nothingTurns, stepOf(2, 1), impl.CodeDone, at(2, 6)},
		{"from the left edge inwards", nothingTurns, stepOf(1, 1), impl.CodeDone, at(1, 5)},
		{"from the right edge inwards", nothingTurns, stepOf(3, 0), impl.CodeDone, at(3, 6)},
		{"over the left edge", nothingTurns, stepOf(1, 0), impl.CodeDone, gone(1, 0, 3)},
		{"over the right edge", nothingTurns, stepOf(3, 1), impl.CodeDone, gone(3, 1, 8)},
		{"behind other parcels, one of its own among them", inOuts, stepOf(3, 1), impl.CodeDone, gone(3, 1, 8)},
		{"over the other edge, with a parcel of its own to this one", both(inOuts, at(3, 4)), stepOf(3, 0), impl.CodeDone, gone(3, 0, 3)},
		{"at the left end", leftCell, stepOf(1, 0), impl.CodeWall, nothingTurns},
		{"from the left end", leftCell, stepOf(1, 1), impl.CodeDone, at(1, 1)},
		{"out of the left cell", leftCell, stepOf(2, 1), impl.CodeDone, gone(2, 1, 4)},
		{"at the right end", rightCell, stepOf(1, 1), impl.CodeWall, nothingTurns},
		{"from the right end", rightCell, stepOf(1, 0), impl.CodeDone, at(1, 10)},
		{"out of the right cell", rightCell, stepOf(2, 0), impl.CodeDone, gone(2, 0, 7)},
		{"the last number to the left", nextIs(0, impl.PclMaxN-1), stepOf(1, 0), impl.CodeDone, gone(1, 0, 3)},
		{"the last number to the right", nextIs(1, impl.PclMaxN-1), stepOf(3, 1), impl.CodeDone, gone(3, 1, 8)},
		{"no number to the left", nextIs(0, impl.PclMaxN), stepOf(1, 0), impl.CodeWall, nothingTurns},
		{"no number to the right", nextIs(1, impl.PclMaxN), stepOf(3, 1), impl.CodeWall, nothingTurns},
		{"no number to the other side", nextIs(0, impl.PclMaxN), stepOf(3, 1), impl.CodeDone, gone(3, 1, 8)},
		{"no number, but inside", nextIs(1, impl.PclMaxN), stepOf(2, 1), impl.CodeDone, at(2, 6)},
		{"with no coins", has(3, 0), stepOf(3, 1), impl.CodeDone, gone(3, 1, 8)},
		{"with the most coins", has(3, impl.WlkMaxCoins), stepOf(3, 1), impl.CodeDone, gone(3, 1, 8)},
	})
}

func TestP51CodesOfGifts(t *testing.T) {
	inOuts := func(c *impl.CllCell) {
		c.Outs[0], c.Next[0] = []impl.PclParcel{{N: 0, Kind: impl.PclWalker, Walker: impl.WlkWalker{Id: 5, At: 3}}}, 1
	}
	askRows(t, []orderRow{
		{"to one in the cell", nothingTurns, giveOf(1, 2, 4), impl.CodeDone, both(has(1, 6), has(2, 14))},
		{"to one with a lower number", nothingTurns, giveOf(3, 1, 4), impl.CodeDone, both(has(3, 6), has(1, 14))},
		{"all that it has", has(1, 4), giveOf(1, 3, 4), impl.CodeDone, both(has(1, 0), has(3, 14))},
		{"one more than it has", has(1, 3), giveOf(1, 3, 4), impl.CodePoor, nothingTurns},
		{"with nothing", has(1, 0), giveOf(1, 3, 1), impl.CodePoor, nothingTurns},
		{"up to the most", has(2, 95), giveOf(1, 2, 4), impl.CodeDone, both(has(1, 6), has(2, 99))},
		{"one past the most", has(2, 96), giveOf(1, 2, 4), impl.CodeFull, nothingTurns},
		{"to who has the most", has(2, 99), giveOf(1, 2, 1), impl.CodeFull, nothingTurns},
		{"to nobody there", nothingTurns, giveOf(1, 4, 4), impl.CodeFar, nothingTurns},
		{"to one on its way", inOuts, giveOf(1, 5, 4), impl.CodeFar, nothingTurns},
		{"to nobody there, too poor", has(1, 0), giveOf(1, 4, 4), impl.CodeFar, nothingTurns},
		{"too poor, and the other one full", both(has(1, 3), has(2, 99)), giveOf(1, 2, 4), impl.CodePoor, nothingTurns},
	})
}

func TestP52CodesOfDropsAndPicks(t *testing.T) {
	askRows(t, []orderRow{
		{"a drop", nothingTurns, dropOf(2, 9), impl.CodeDone, both(has(2, 1), groundIs(19))},
		{"a drop of all", has(2, 9), dropOf(2, 9), impl.CodeDone, both(has(2, 0), groundIs(19))},
		{"a drop of one more", has(2, 8), dropOf(2, 9), impl.CodePoor, nothingTurns},
		{"a drop up to the most", groundIs(895), dropOf(2, 5), impl.CodeDone, both(has(2, 5), groundIs(900))},
		{"a drop one past the most", groundIs(896), dropOf(2, 5), impl.CodeFull, nothingTurns},
		{"a drop too poor on a full ground", both(has(2, 4), groundIs(900)), dropOf(2, 5), impl.CodePoor, nothingTurns},
		{"a pick", nothingTurns, pickOf(2, 9), impl.CodeDone, both(has(2, 19), groundIs(1))},
		{"a pick of all", groundIs(9), pickOf(2, 9), impl.CodeDone, both(has(2, 19), groundIs(0))},
		{"a pick of one more", groundIs(8), pickOf(2, 9), impl.CodeBare, nothingTurns},
		{"a pick of nothing", groundIs(0), pickOf(2, 1), impl.CodeBare, nothingTurns},
		{"a pick up to the most", has(2, 94), pickOf(2, 5), impl.CodeDone, both(has(2, 99), groundIs(5))},
		{"a pick one past the most", has(2, 95), pickOf(2, 5), impl.CodeFull, nothingTurns},
		{"a pick by the full on a bare ground", both(has(2, 99), groundIs(4)), pickOf(2, 5), impl.CodeBare, nothingTurns},
	})
}

func TestP53CodesOfThrows(t *testing.T) {
	askRows(t, []orderRow{
		{"to the left", nothingTurns, throwOf(1, 0, 4), impl.CodeDone, thrown(1, 6, 0, 4)},
		{"to the right", nothingTurns, throwOf(3, 1, 4), impl.CodeDone, thrown(3, 6, 1, 4)},
		{"from inside", nothingTurns, throwOf(2, 0, 4), impl.CodeInner, nothingTurns},
		{"from the other edge to the right", nothingTurns, throwOf(1, 1, 4), impl.CodeInner, nothingTurns},
		{"from the other edge to the left", nothingTurns, throwOf(3, 0, 4), impl.CodeInner, nothingTurns},
		{"from the left end", leftCell, throwOf(1, 0, 4), impl.CodeInner, nothingTurns},
		{"from the right end", rightCell, throwOf(1, 1, 4), impl.CodeInner, nothingTurns},
		{"out of the left cell", leftCell, throwOf(2, 1, 4), impl.CodeDone, thrown(2, 6, 1, 4)},
		{"out of the right cell", rightCell, throwOf(2, 0, 4), impl.CodeDone, thrown(2, 6, 0, 4)},
		{"all that it has", has(3, 4), throwOf(3, 1, 4), impl.CodeDone, thrown(3, 0, 1, 4)},
		{"one more than it has", has(3, 3), throwOf(3, 1, 4), impl.CodePoor, nothingTurns},
		{"the last number", nextIs(1, impl.PclMaxN-1), throwOf(3, 1, 4), impl.CodeDone, thrown(3, 6, 1, 4)},
		{"no number", nextIs(1, impl.PclMaxN), throwOf(3, 1, 4), impl.CodeFull, nothingTurns},
		{"no number to the other side", nextIs(0, impl.PclMaxN), throwOf(3, 1, 4), impl.CodeDone, thrown(3, 6, 1, 4)},
		{"from inside, too poor", has(2, 0), throwOf(2, 1, 4), impl.CodeInner, nothingTurns},
		{"from inside, no number", nextIs(1, impl.PclMaxN), throwOf(2, 1, 4), impl.CodeInner, nothingTurns},
		{"too poor, no number", both(has(3, 3), nextIs(1, impl.PclMaxN)), throwOf(3, 1, 4), impl.CodePoor, nothingTurns},
		{"a rest", nothingTurns, impl.OrdOrder{Who: 2, Kind: impl.OrdRest}, impl.CodeDone, nothingTurns},
	})
}
