package tests

import (
	"testing"

	"loop.example/landmarch/impl"
)

// oneRow is an order in a one world that is set up by a turn, the code that it has, and what turns by it beside the walker's Seq and Last.
type oneRow struct {
	why   string
	set   oneTurn
	order impl.OrdOrder
	code  int
	turns oneTurn
}

func noTurn(*impl.OneWorld) {}

// codesOne has in its cell in the middle the walker 1 at the left edge, 2 inside, 3 at the right edge; 4 and 5 at the ends of the map; 6 on its way into the cell in the middle; and something in every air.
func codesOne() impl.OneWorld {
	return impl.OneWorld{
		Map: codesMap,
		Walkers: []impl.OneWalker{
			{Walker: impl.WlkWalker{Id: 1, At: 4, Coins: 10}, Here: true},
			{Walker: impl.WlkWalker{Id: 2, At: 5, Coins: 10}, Here: true},
			{Walker: impl.WlkWalker{Id: 3, At: 7, Coins: 10}, Here: true},
			{Walker: impl.WlkWalker{Id: 4, At: 0, Coins: 10}, Here: true},
			{Walker: impl.WlkWalker{Id: 5, At: 11, Coins: 10}, Here: true},
			{Walker: impl.WlkWalker{Id: 6, At: 4, Coins: 10}},
		},
		Ground: []int{10, 20, 30},
		Air:    [][]int{{1, 2}, {3, 4}, {5, 6}},
	}
}

// goes is that a walker is on its way to a place.
func goes(who, at int) oneTurn {
	return oneBoth(oneAt(who, at), oneHere(who, false))
}

// askOneRows asks for rows: each order has the Seq 900, and the walker had a number below, the one ahead of it or another one.
func askOneRows(t *testing.T, rows []oneRow) {
	t.Helper()
	for _, row := range rows {
		for seq := range 2 {
			r := row.order
			r.Seq = 900
			o := turnedOne(codesOne(), row.set, func(o *impl.OneWorld) {
				w := &o.Walkers[onePlace(*o, r.Who)].Walker
				w.Seq, w.Last = 899*seq, 7*seq
			})
			want := turnedOne(o, row.turns, func(o *impl.OneWorld) {
				w := &o.Walkers[onePlace(*o, r.Who)].Walker
				w.Seq, w.Last = 900, row.code
			})
			if got, code := askOneDo(t, o, r); code != row.code || !sameOne(got, want) {
				t.Errorf("%s: OneDo(%+v, %v) is %d, not %d, and%s", row.why, o, r, code, row.code, onesApart(got, want))
			}
		}
	}
}

func TestP57CodesOfStepsInTheOneWorld(t *testing.T) {
	full := func(o *impl.OneWorld) {
		for cell := range o.Air {
			o.Air[cell] = []int{100000, 100000}
		}
	}
	askOneRows(t, []oneRow{
		{"inside, to where another one is", noTurn, stepOf(2, 0), impl.CodeDone, oneAt(2, 4)},
		{"inside, to the right", noTurn, stepOf(2, 1), impl.CodeDone, oneAt(2, 6)},
		{"from the left edge inwards", noTurn, stepOf(1, 1), impl.CodeDone, oneAt(1, 5)},
		{"from the right edge inwards", noTurn, stepOf(3, 0), impl.CodeDone, oneAt(3, 6)},
		{"over the left edge", noTurn, stepOf(1, 0), impl.CodeDone, goes(1, 3)},
		{"over the right edge", noTurn, stepOf(3, 1), impl.CodeDone, goes(3, 8)},
		{"out of the left cell", oneAt(4, 3), stepOf(4, 1), impl.CodeDone, goes(4, 4)},
		{"out of the right cell", oneAt(5, 8), stepOf(5, 0), impl.CodeDone, goes(5, 7)},
		{"at the left end", noTurn, stepOf(4, 0), impl.CodeWall, noTurn},
		{"at the right end", noTurn, stepOf(5, 1), impl.CodeWall, noTurn},
		{"from the left end", noTurn, stepOf(4, 1), impl.CodeDone, oneAt(4, 1)},
		{"from the right end", noTurn, stepOf(5, 0), impl.CodeDone, oneAt(5, 10)},
		{"with no coins", oneCoins(3, 0), stepOf(3, 1), impl.CodeDone, goes(3, 8)},
		{"with the most coins", oneCoins(3, 99), stepOf(3, 1), impl.CodeDone, goes(3, 8)},
		{"the air is full, which is no wall", full, stepOf(3, 1), impl.CodeDone, goes(3, 8)},
		{"the air is full, to the left", full, stepOf(1, 0), impl.CodeDone, goes(1, 3)},
		{"the air is full, inside", full, stepOf(2, 0), impl.CodeDone, oneAt(2, 4)},
	})
}

func TestP57CodesOfGiftsInTheOneWorld(t *testing.T) {
	askOneRows(t, []oneRow{
		{"to one in the cell", noTurn, giveOf(1, 2, 4), impl.CodeDone, oneBoth(oneCoins(1, 6), oneCoins(2, 14))},
		{"to one with a lower number", noTurn, giveOf(3, 1, 4), impl.CodeDone, oneBoth(oneCoins(3, 6), oneCoins(1, 14))},
		{"all that it has", oneCoins(1, 4), giveOf(1, 3, 4), impl.CodeDone, oneBoth(oneCoins(1, 0), oneCoins(3, 14))},
		{"one more than it has", oneCoins(1, 3), giveOf(1, 3, 4), impl.CodePoor, noTurn},
		{"with nothing", oneCoins(1, 0), giveOf(1, 3, 1), impl.CodePoor, noTurn},
		{"up to the most", oneCoins(2, 95), giveOf(1, 2, 4), impl.CodeDone, oneBoth(oneCoins(1, 6), oneCoins(2, 99))},
		{"one past the most", oneCoins(2, 96), giveOf(1, 2, 4), impl.CodeFull, noTurn},
		{"to who has the most", oneCoins(2, 99), giveOf(1, 2, 1), impl.CodeFull, noTurn},
		{"to nobody", noTurn, giveOf(1, 9, 4), impl.CodeFar, noTurn},
		{"to one in another cell", noTurn, giveOf(1, 4, 4), impl.CodeFar, noTurn},
		{"to one beside it, in another cell", oneAt(4, 3), giveOf(1, 4, 4), impl.CodeFar, noTurn},
		{"to one at its place, on its way", noTurn, giveOf(1, 6, 4), impl.CodeFar, noTurn},
		{"to one at its place, who is there", oneHere(6, true), giveOf(1, 6, 4), impl.CodeDone, oneBoth(oneCoins(1, 6), oneCoins(6, 14))},
		{"to one on its way out", oneBoth(oneAt(6, 3)), giveOf(1, 6, 4), impl.CodeFar, noTurn},
		{"to nobody there, too poor", oneCoins(1, 0), giveOf(1, 4, 4), impl.CodeFar, noTurn},
		{"to one on its way, who is full", oneCoins(6, 99), giveOf(1, 6, 4), impl.CodeFar, noTurn},
		{"too poor, and the other one full", oneBoth(oneCoins(1, 3), oneCoins(2, 99)), giveOf(1, 2, 4), impl.CodePoor, noTurn},
	})
}

func TestP57CodesOfDropsAndPicksInTheOneWorld(t *testing.T) {
	askOneRows(t, []oneRow{
		{"a drop", noTurn, dropOf(2, 9), impl.CodeDone, oneBoth(oneCoins(2, 1), oneGround(1, 29))},
		{"a drop in the first cell", noTurn, dropOf(4, 9), impl.CodeDone, oneBoth(oneCoins(4, 1), oneGround(0, 19))},
		{"a drop in the last cell", noTurn, dropOf(5, 9), impl.CodeDone, oneBoth(oneCoins(5, 1), oneGround(2, 39))},
		{"a drop of all", oneCoins(2, 9), dropOf(2, 9), impl.CodeDone, oneBoth(oneCoins(2, 0), oneGround(1, 29))},
		{"a drop of one more", oneCoins(2, 8), dropOf(2, 9), impl.CodePoor, noTurn},
		{"a drop up to the most", oneGround(1, 895), dropOf(2, 5), impl.CodeDone, oneBoth(oneCoins(2, 5), oneGround(1, 900))},
		{"a drop one past the most", oneGround(1, 896), dropOf(2, 5), impl.CodeFull, noTurn},
		{"a drop where another ground is full", oneBoth(oneGround(0, 900), oneGround(2, 900)), dropOf(2, 5), impl.CodeDone, oneBoth(oneCoins(2, 5), oneGround(1, 25))},
		{"a drop too poor on a full ground", oneBoth(oneCoins(2, 4), oneGround(1, 900)), dropOf(2, 5), impl.CodePoor, noTurn},
		{"a pick", noTurn, pickOf(2, 9), impl.CodeDone, oneBoth(oneCoins(2, 19), oneGround(1, 11))},
		{"a pick in the first cell", noTurn, pickOf(4, 9), impl.CodeDone, oneBoth(oneCoins(4, 19), oneGround(0, 1))},
		{"a pick in the last cell", noTurn, pickOf(5, 9), impl.CodeDone, oneBoth(oneCoins(5, 19), oneGround(2, 21))},
		{"a pick of all", oneGround(1, 9), pickOf(2, 9), impl.CodeDone, oneBoth(oneCoins(2, 19), oneGround(1, 0))},
		{"a pick of one more, with enough in the air", oneGround(1, 6), pickOf(2, 7), impl.CodeBare, noTurn},
		{"a pick of nothing", oneGround(1, 0), pickOf(2, 1), impl.CodeBare, noTurn},
		{"a pick up to the most", oneCoins(2, 94), pickOf(2, 5), impl.CodeDone, oneBoth(oneCoins(2, 99), oneGround(1, 15))},
		{"a pick one past the most", oneCoins(2, 95), pickOf(2, 5), impl.CodeFull, noTurn},
		{"a pick by the full on a bare ground", oneBoth(oneCoins(2, 99), oneGround(1, 4)), pickOf(2, 5), impl.CodeBare, noTurn},
		{"a rest", noTurn, impl.OrdOrder{Who: 2, Kind: impl.OrdRest}, impl.CodeDone, noTurn},
	})
}

func TestP57CodesOfThrowsInTheOneWorld(t *testing.T) {
	askOneRows(t, []oneRow{
		{"to the left", noTurn, throwOf(1, 0, 4), impl.CodeDone, oneBoth(oneCoins(1, 6), oneAir(0, 1, 6))},
		{"to the right", noTurn, throwOf(3, 1, 4), impl.CodeDone, oneBoth(oneCoins(3, 6), oneAir(2, 0, 9))},
		{"out of the left cell", oneAt(4, 3), throwOf(4, 1, 4), impl.CodeDone, oneBoth(oneCoins(4, 6), oneAir(1, 0, 7))},
		{"out of the right cell", oneAt(5, 8), throwOf(5, 0, 4), impl.CodeDone, oneBoth(oneCoins(5, 6), oneAir(1, 1, 8))},
		{"from inside", noTurn, throwOf(2, 0, 4), impl.CodeInner, noTurn},
		{"from the other edge to the right", noTurn, throwOf(1, 1, 4), impl.CodeInner, noTurn},
		{"from the other edge to the left", noTurn, throwOf(3, 0, 4), impl.CodeInner, noTurn},
		{"from the left end", noTurn, throwOf(4, 0, 4), impl.CodeInner, noTurn},
		{"from the right end", noTurn, throwOf(5, 1, 4), impl.CodeInner, noTurn},
		{"all that it has", oneCoins(3, 4), throwOf(3, 1, 4), impl.CodeDone, oneBoth(oneCoins(3, 0), oneAir(2, 0, 9))},
		{"one more than it has", oneCoins(3, 3), throwOf(3, 1, 4), impl.CodePoor, noTurn},
		{"the ground there is full", oneGround(2, 900), throwOf(3, 1, 4), impl.CodeDone, oneBoth(oneCoins(3, 6), oneAir(2, 0, 9))},
		{"into an air of nothing", oneAir(2, 0, 0), throwOf(3, 1, 4), impl.CodeDone, oneBoth(oneCoins(3, 6), oneAir(2, 0, 4))},
		{"up to the most in the air", oneAir(2, 0, 99996), throwOf(3, 1, 4), impl.CodeDone, oneBoth(oneCoins(3, 6), oneAir(2, 0, 100000))},
		{"one past the most in the air", oneAir(2, 0, 99997), throwOf(3, 1, 4), impl.CodeFull, noTurn},
		{"the air is full", oneAir(2, 0, 100000), throwOf(3, 1, 1), impl.CodeFull, noTurn},
		{"up to the most, to the left", oneAir(0, 1, 99991), throwOf(1, 0, 9), impl.CodeDone, oneBoth(oneCoins(1, 1), oneAir(0, 1, 100000))},
		{"one past the most, to the left", oneAir(0, 1, 99992), throwOf(1, 0, 9), impl.CodeFull, noTurn},
		{"other air is full", oneBoth(oneAir(2, 1, 100000), oneAir(1, 0, 100000), oneAir(1, 1, 100000), oneAir(0, 0, 100000), oneAir(0, 1, 100000)), throwOf(3, 1, 4), impl.CodeDone, oneBoth(oneCoins(3, 6), oneAir(2, 0, 9))},
		{"from inside, too poor, the air is full", oneBoth(oneCoins(2, 0), oneAir(2, 0, 100000), oneAir(0, 1, 100000)), throwOf(2, 1, 4), impl.CodeInner, noTurn},
		{"too poor, the air is full", oneBoth(oneCoins(3, 3), oneAir(2, 0, 100000)), throwOf(3, 1, 4), impl.CodePoor, noTurn},
	})
}
