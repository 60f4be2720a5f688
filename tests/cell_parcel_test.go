package tests

import (
	"math/rand"
	"slices"
	"testing"

	"loop.example/landmarch/impl"
)

// sidesAround is both sides, and numbers that are none.
var sidesAround = append([]int{-2, -1, 0, 1, 2, 3}, farNumbers...)

// askIn asks that a parcel comes in as the words say.
func askIn(t *testing.T, m impl.PlcMap, c impl.CllCell, side int, p impl.PclParcel) (impl.CllCell, bool) {
	t.Helper()
	got, ok := impl.CllIn(m, c, side, p)
	want, wantOk := inPlainly(m, c, side, p)
	if ok != wantOk || !sameCell(got, want) {
		t.Fatalf("CllIn(%v, %+v, %d, %+v) is\n%+v, %v, not\n%+v, %v", m, c, side, p, got, ok, want, wantOk)
	}
	return got, ok
}

// askAck asks that parcels are let go of as the words say.
func askAck(t *testing.T, m impl.PlcMap, c impl.CllCell, side, n int) (impl.CllCell, bool) {
	t.Helper()
	got, ok := impl.CllAck(m, c, side, n)
	want, wantOk := ackPlainly(m, c, side, n)
	if ok != wantOk || !sameCell(got, want) {
		t.Fatalf("CllAck(%v, %+v, %d, %d) is\n%+v, %v, not\n%+v, %v", m, c, side, n, got, ok, want, wantOk)
	}
	return got, ok
}

// someParcels is parcels for a cell: with the number that comes next from a side, one less and one more, or any; of walkers who are there already or not, also at places of other cells.
func someParcels(r *rand.Rand, m impl.PlcMap, c impl.CllCell) []impl.PclParcel {
	var list []impl.PclParcel
	for _, ins := range c.Ins {
		for _, n := range []int{ins - 1, ins, ins, ins, ins + 1, r.Intn(impl.PclMaxN)} {
			list = append(list, parcelInto(r, m, c.Cell, n), parcelInto(r, m, r.Intn(m.Cells), n))
		}
	}
	return list
}

func TestP46P48P54ParcelsComeIn(t *testing.T) {
	r := rand.New(rand.NewSource(71))
	taken := map[int]int{}
	eachOkCell(t, 72, 200, func(m impl.PlcMap, c impl.CllCell) {
		for _, p := range someParcels(r, m, c) {
			for side := range 2 {
				got, ok := askIn(t, m, c, side, p)
				if !ok {
					continue
				}
				taken[p.Kind]++
				askTaken(t, m, c, got, side, p)
			}
		}
	})
	if taken[impl.PclWalker] < 100 || taken[impl.PclCoins] < 100 {
		t.Errorf("so many were taken in: %v", taken)
	}
}

// askTaken asks for what is behind a parcel that was taken in.
func askTaken(t *testing.T, m impl.PlcMap, before, after impl.CllCell, side int, p impl.PclParcel) {
	t.Helper()
	if p.N != before.Ins[side] || after.Ins[side] != p.N+1 || after.Ins[1-side] != before.Ins[1-side] {
		t.Fatalf("behind %+v from %d Ins of %+v are %v", p, side, before, after.Ins)
	}
	if !slices.EqualFunc(after.Outs, before.Outs, slices.Equal[[]impl.PclParcel]) || !slices.Equal(after.Next, before.Next) {
		t.Fatalf("%+v from %d turned Outs or Next of %+v: %+v", p, side, before, after)
	}
	if !impl.CllOk(m, after) || !cellOkPlainly(m, after) {
		t.Fatalf("behind %+v from %d %+v is not ok: %+v", p, side, before, after)
	}
	if impl.CllCoins(m, after) != impl.CllCoins(m, before)+p.Coins+p.Walker.Coins {
		t.Fatalf("behind %+v from %d %+v has %d coins, had %d", p, side, before, impl.CllCoins(m, after), impl.CllCoins(m, before))
	}
	for range 2 {
		if again, ok := impl.CllIn(m, after, side, p); ok || !sameCell(again, after) {
			t.Fatalf("%+v from %d is taken in once more: %+v", p, side, again)
		}
	}
}

func TestP54ParcelsAtTheEdges(t *testing.T) {
	walker := func(n, id, at int) impl.PclParcel {
		return impl.PclParcel{N: n, Kind: impl.PclWalker, Walker: impl.WlkWalker{Id: id, At: at, Coins: 99, Seq: 900, Last: 9}}
	}
	coins := func(n, coins int) impl.PclParcel {
		return impl.PclParcel{N: n, Kind: impl.PclCoins, Coins: coins}
	}
	insAre := func(left, right int) cellTurn {
		return func(c *impl.CllCell) { c.Ins = []int{left, right} }
	}
	for _, row := range []struct {
		why  string
		set  cellTurn
		side int
		p    impl.PclParcel
		want bool
	}{
		{"coins from the left", nothingTurns, 0, coins(0, 9), true},
		{"coins from the right", nothingTurns, 1, coins(0, 9), true},
		{"a walker from the left", nothingTurns, 0, walker(0, 4, 4), true},
		{"a walker from the right", nothingTurns, 1, walker(0, 4, 7), true},
		{"a walker not at that edge", nothingTurns, 0, walker(0, 4, 7), true},
		{"a walker ahead of all", func(c *impl.CllCell) { c.Walkers = c.Walkers[1:] }, 0, walker(0, 1, 4), true},
		{"a walker behind all", nothingTurns, 0, walker(0, 9, 4), true},
		{"a number too early", insAre(3, 0), 0, coins(2, 9), false},
		{"a number too late", insAre(3, 0), 0, coins(4, 9), false},
		{"the number of the other side", insAre(3, 0), 1, coins(3, 9), false},
		{"the last number", insAre(4999, 0), 0, coins(4999, 9), true},
		{"a walker with the last number", insAre(0, 4999), 1, walker(4999, 4, 7), true},
		{"no number any more", insAre(5000, 0), 0, coins(4999, 9), false},
		{"the ground full", groundIs(891), 0, coins(0, 9), true},
		{"the ground one past it", groundIs(892), 0, coins(0, 9), false},
		{"the ground full, but a walker", groundIs(900), 0, walker(0, 4, 4), true},
		{"a walker that is there", nothingTurns, 0, walker(0, 2, 4), false},
		{"a walker of the cell on the left", nothingTurns, 0, walker(0, 4, 3), false},
		{"a walker of the cell on the right", nothingTurns, 1, walker(0, 4, 8), false},
	} {
		c := turnedCell(codesCell(), row.set)
		got, ok := askIn(t, codesMap, c, row.side, row.p)
		if ok != row.want || !ok && !sameCell(got, c) {
			t.Errorf("%s: CllIn(%+v, %d, %+v) is %+v, %v", row.why, c, row.side, row.p, got, ok)
		}
	}
}

// One that is in Outs may come back: it is not among the walkers.
func TestP54AWalkerComesBack(t *testing.T) {
	gone, code := impl.CllDo(codesMap, codesCell(), impl.OrdOrder{Who: 3, Seq: 1, Kind: impl.OrdStep, To: impl.PlcRight})
	back := impl.PclParcel{N: 0, Kind: impl.PclWalker, Walker: impl.WlkWalker{Id: 3, At: 7, Coins: 10, Seq: 2, Last: impl.CodeDone}}
	got, ok := impl.CllIn(codesMap, gone, impl.PlcRight, back)
	if code != impl.CodeDone || !ok || len(got.Outs[1]) != 1 || got.Walkers[2] != back.Walker {
		t.Errorf("CllIn(%+v) is %+v, %v", gone, got, ok)
	}
}

func TestP54SidesAndParcelsThatAreNone(t *testing.T) {
	m := impl.PlcMap{Cells: 2, Width: 2}
	for cell := range 2 {
		c := turnedCell(bareCell(cell), func(c *impl.CllCell) { c.Walkers = []impl.WlkWalker{{Id: 5, At: 2 * cell, Coins: 1}} })
		for _, side := range sidesAround {
			for n := -1; n < 3; n++ {
				askIn(t, m, c, side, impl.PclParcel{N: n, Kind: impl.PclCoins, Coins: 1})
				askIn(t, m, c, side, impl.PclParcel{N: n, Kind: impl.PclWalker, Walker: impl.WlkWalker{Id: 1, At: 2 * cell}})
			}
		}
		manyParcels(func(p impl.PclParcel) {
			if p.N >= -1 && p.N <= 1 || p.N == 5000 {
				askIn(t, m, c, 1-cell, p)
			}
		})
	}
}

// ackNumbers is, for a side of a cell, numbers below all parcels, between them, at Next and past it.
func ackNumbers(c impl.CllCell, side int) []int {
	next := c.Next[side]
	first := next - len(c.Outs[side])
	return append([]int{-1, 0, 1, first - 1, first, first + 1, first + 2, next - 1, next, next + 1, 4999, 5000, 5001}, farNumbers...)
}

func TestP46P55ParcelsAreLetGo(t *testing.T) {
	count := map[bool]int{}
	eachOkCell(t, 73, 300, func(m impl.PlcMap, c impl.CllCell) {
		for side := range 2 {
			for _, n := range ackNumbers(c, side) {
				got, ok := askAck(t, m, c, side, n)
				count[ok]++
				if ok {
					askLetGo(t, m, c, got, side, n)
				}
			}
		}
	})
	if count[true] < 100 || count[false] < 100 {
		t.Errorf("so many were let go, so many not: %v", count)
	}
}

// askLetGo asks for what is behind parcels that were let go of.
func askLetGo(t *testing.T, m impl.PlcMap, before, after impl.CllCell, side, n int) {
	t.Helper()
	if len(after.Outs[side]) >= len(before.Outs[side]) {
		t.Fatalf("behind %d to %d %+v has not fewer parcels: %+v", n, side, before, after)
	}
	for _, p := range after.Outs[side] {
		if p.N < n {
			t.Fatalf("behind %d to %d there is %+v", n, side, p)
		}
	}
	if !impl.CllOk(m, after) || !cellOkPlainly(m, after) {
		t.Fatalf("behind %d to %d %+v is not ok: %+v", n, side, before, after)
	}
	if again, ok := impl.CllAck(m, after, side, n); ok || !sameCell(again, after) {
		t.Fatalf("behind %d to %d %+v lets go once more: %+v", n, side, before, again)
	}
	restored := cloneCell(after)
	restored.Outs[side] = before.Outs[side]
	if !sameCell(restored, before) {
		t.Fatalf("%d to %d turned more of %+v than Outs: %+v", n, side, before, after)
	}
}

func TestP55NumbersAtTheEdges(t *testing.T) {
	c := turnedCell(codesCell(), func(c *impl.CllCell) {
		c.Outs[1] = []impl.PclParcel{{N: 5, Kind: 2, Coins: 1}, {N: 6, Kind: 1, Walker: impl.WlkWalker{Id: 1, At: 8}}, {N: 7, Kind: 2, Coins: 2}}
		c.Next = []int{3, 8}
	})
	for _, row := range []struct {
		why           string
		side, n, left int
		want          bool
	}{
		{"below all", 1, 4, 3, false},
		{"the first one", 1, 5, 3, false},
		{"behind the first one", 1, 6, 2, true},
		{"behind the second one", 1, 7, 1, true},
		{"all of them", 1, 8, 0, true},
		{"past Next", 1, 9, 3, false},
		{"below 0", 1, -1, 3, false},
		{"0", 1, 0, 3, false},
		{"no parcels there", 0, 3, 0, false},
		{"no parcels there, past Next", 0, 4, 0, false},
	} {
		got, ok := askAck(t, codesMap, c, row.side, row.n)
		if ok != row.want || len(got.Outs[row.side]) != row.left || !ok && !sameCell(got, c) {
			t.Errorf("%s: CllAck(%d, %d) is %+v, %v", row.why, row.side, row.n, got, ok)
		}
	}
}

func TestP55TheLastNumbers(t *testing.T) {
	c := turnedCell(codesCell(), func(c *impl.CllCell) {
		c.Outs[0], c.Next[0] = []impl.PclParcel{{N: 4998, Kind: 2, Coins: 1}, {N: 4999, Kind: 2, Coins: 1}}, 5000
	})
	for n, left := range map[int]int{4998: 2, 4999: 1, 5000: 0, 5001: 2} {
		got, ok := askAck(t, codesMap, c, 0, n)
		if len(got.Outs[0]) != left || ok != (left < 2) || got.Next[0] != 5000 {
			t.Errorf("CllAck(0, %d) is %+v, %v", n, got, ok)
		}
	}
}

func TestP55SidesThatAreNone(t *testing.T) {
	m := impl.PlcMap{Cells: 2, Width: 2}
	for cell := range 2 {
		c := turnedCell(bareCell(cell), func(c *impl.CllCell) {
			c.Outs[1-cell], c.Next[1-cell] = []impl.PclParcel{{N: 0, Kind: 2, Coins: 1}}, 1
		})
		for _, side := range sidesAround {
			for n := -1; n <= 2; n++ {
				askAck(t, m, c, side, n)
			}
		}
	}
}
