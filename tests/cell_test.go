package tests

import (
	"math/rand"
	"slices"
	"testing"

	"loop.example/landmarch/impl"
)

func TestP46CellsThatAreOk(t *testing.T) {
	eachOkCell(t, 51, 300, func(m impl.PlcMap, c impl.CllCell) {
		if !impl.CllOk(m, c) {
			t.Fatalf("CllOk(%v, %+v) is false", m, c)
		}
	})
}

// The ends of the bounds, each by itself.
func TestP46CellsAtTheEndsOfTheirBounds(t *testing.T) {
	m := impl.PlcMap{Cells: 3, Width: 4}
	far := impl.PclParcel{N: 4999, Kind: 1, Walker: impl.WlkWalker{Id: 9, At: 11, Coins: 99, Seq: 900, Last: 9}}
	for why, turn := range map[string]cellTurn{
		"noughts":                func(c *impl.CllCell) {},
		"the most on the ground": func(c *impl.CllCell) { c.Ground = 900 },
		"walkers at both edges":  func(c *impl.CllCell) { c.Walkers = []impl.WlkWalker{{Id: 1, At: 7}, {Id: 9, At: 4}} },
		"walkers at one place":   func(c *impl.CllCell) { c.Walkers = []impl.WlkWalker{{Id: 1, At: 5}, {Id: 2, At: 5}} },
		"the last numbers":       func(c *impl.CllCell) { c.Next, c.Ins = []int{5000, 5000}, []int{5000, 5000} },
		"the last parcel":        func(c *impl.CllCell) { c.Outs[1], c.Next[1] = []impl.PclParcel{far}, 5000 },
		"all parcels from 0 on":  func(c *impl.CllCell) { c.Outs[0], c.Next[0] = []impl.PclParcel{{Kind: 2, Coins: 9}}, 1 },
		"a walker from edge to edge": func(c *impl.CllCell) {
			c.Outs[0], c.Next[0] = []impl.PclParcel{{Kind: 1, Walker: impl.WlkWalker{Id: 1}}}, 1
		},
		"one that is on its way, too": func(c *impl.CllCell) {
			c.Walkers = []impl.WlkWalker{{Id: 9, At: 7}}
			c.Outs[1], c.Next[1] = []impl.PclParcel{far}, 5000
		},
	} {
		if c := turnedCell(bareCell(1), turn); !impl.CllOk(m, c) {
			t.Errorf("%s: CllOk(%+v) is false", why, c)
		}
	}
	for cell := range 3 {
		if !impl.CllOk(m, bareCell(cell)) {
			t.Errorf("the cell %d with noughts is not ok", cell)
		}
	}
}

func TestP46CellsThatAreNotOk(t *testing.T) {
	r := rand.New(rand.NewSource(52))
	for _, m := range []impl.PlcMap{{Cells: 3, Width: 2}, {Cells: 4, Width: 8}} {
		cells := []impl.CllCell{bareCell(1)}
		for range 20 {
			cells = append(cells, anyOkCell(r, m, 1))
		}
		for _, c := range cells {
			for why, wrong := range wrongCells(m, c) {
				askNothing(t, why, m, wrong)
			}
			if t.Failed() {
				return
			}
		}
	}
}

func TestP46NoCellIsOkOnAMapThatIsNot(t *testing.T) {
	r := rand.New(rand.NewSource(53))
	for _, m := range badMaps() {
		askNothing(t, "noughts", m, bareCell(0))
		askNothing(t, "any", m, anyOkCell(r, impl.PlcMap{Cells: 3, Width: 4}, 1))
	}
}

// anyTurn turns something of a cell, which may be ok behind it or not.
func anyTurn(r *rand.Rand, m impl.PlcMap) cellTurn {
	side, n := r.Intn(2), oneOf(r, -1, 0, 1, 2, 3, 4, 5, 4998, 4999, 5000, 5001)
	return []cellTurn{
		func(c *impl.CllCell) { c.Cell = r.Intn(m.Cells+2) - 1 },
		func(c *impl.CllCell) { c.Ground = oneOf(r, -1, 0, 900, 901) },
		func(c *impl.CllCell) { c.Next[side] = n },
		func(c *impl.CllCell) { c.Ins[side] = n },
		func(c *impl.CllCell) { c.Outs[side] = nil },
		func(c *impl.CllCell) { c.Outs[side] = append(c.Outs[side], impl.PclParcel{N: n, Kind: 2, Coins: 1}) },
		func(c *impl.CllCell) { c.Outs[0], c.Outs[1] = c.Outs[1], c.Outs[0] },
		func(c *impl.CllCell) {
			for i := range c.Outs[side] {
				c.Outs[side][i].Walker.At = r.Intn(m.Cells * m.Width)
			}
		},
		func(c *impl.CllCell) {
			for i := range c.Walkers {
				c.Walkers[i].At = r.Intn(m.Cells * m.Width)
			}
		},
		func(c *impl.CllCell) {
			if len(c.Walkers) > 0 {
				c.Walkers[r.Intn(len(c.Walkers))].Id = r.Intn(11)
			}
		},
	}[r.Intn(10)]
}

func TestP46AnyCells(t *testing.T) {
	r := rand.New(rand.NewSource(54))
	count := map[bool]int{}
	eachOkCell(t, 55, 500, func(m impl.PlcMap, c impl.CllCell) {
		for range 10 {
			other := turnedCell(c, anyTurn(r, m))
			if r.Intn(2) == 0 {
				other = turnedCell(other, anyTurn(r, m))
			}
			want := cellOkPlainly(m, other)
			if got := impl.CllOk(m, other); got != want {
				t.Fatalf("CllOk(%v, %+v) is %v", m, other, got)
			}
			count[want]++
		}
	})
	if count[true] < 1000 || count[false] < 1000 {
		t.Errorf("so many were ok, so many not: %v", count)
	}
}

func TestP56EachWalkerIsInOneCell(t *testing.T) {
	for _, m := range okMaps() {
		for _, list := range okWalkers(m, 56) {
			var all []impl.WlkWalker
			for cell := range m.Cells {
				c := impl.CllNew(m, cell, list)
				want := bareCell(cell)
				for _, w := range list {
					if inCellPlainly(m, cell, w.At) {
						want.Walkers = append(want.Walkers, w)
					}
				}
				if !sameCell(c, want) {
					t.Fatalf("CllNew(%v, %d, %v) is %+v", m, cell, list, c)
				}
				if !impl.CllOk(m, c) {
					t.Fatalf("CllNew(%v, %d, %v) is not ok", m, cell, list)
				}
				all = append(all, c.Walkers...)
			}
			slices.SortFunc(all, func(a, b impl.WlkWalker) int { return a.Id - b.Id })
			if !slices.Equal(all, list) {
				t.Fatalf("over all cells of %v there are %v, not %v", m, all, list)
			}
		}
	}
}

func TestP56CellsThatCannotBe(t *testing.T) {
	m := impl.PlcMap{Cells: 3, Width: 4}
	list := []impl.WlkWalker{{Id: 1, At: 4}, {Id: 2, At: 5}}
	for _, cell := range append([]int{-2, -1, 3, 4}, farNumbers...) {
		for _, walkers := range [][]impl.WlkWalker{nil, list} {
			if c := impl.CllNew(m, cell, walkers); !isNothing(c) {
				t.Errorf("CllNew of the cell %d is %+v", cell, c)
			}
		}
	}
	for _, bad := range badMaps() {
		for _, walkers := range [][]impl.WlkWalker{nil, {}, list} {
			if c := impl.CllNew(bad, 0, walkers); !isNothing(c) {
				t.Errorf("CllNew(%v) is %+v", bad, c)
			}
		}
	}
	// One that is not ok is asked for wherever it is: also beside the cell.
	for why, walkers := range map[string][]impl.WlkWalker{
		"they fall":                 {list[1], list[0]},
		"one twice":                 {list[0], list[0]},
		"a number past the bounds":  {list[0], {Id: 10, At: 5}},
		"coins past the bounds":     {{Id: 1, At: 0, Coins: 100}, list[1]},
		"no place":                  {list[0], {Id: 2, At: 12}},
		"they fall beside the cell": {{Id: 3, At: 0}, {Id: 2, At: 0}},
		"nothing":                   {{}},
	} {
		for cell := range 3 {
			if c := impl.CllNew(m, cell, walkers); !isNothing(c) {
				t.Errorf("%s: CllNew(%d, %v) is %+v", why, cell, walkers, c)
			}
		}
	}
}

func TestP48CoinsOfACell(t *testing.T) {
	eachOkCell(t, 57, 300, func(m impl.PlcMap, c impl.CllCell) {
		if got, want := impl.CllCoins(m, c), coinsPlainly(c); got != want {
			t.Fatalf("CllCoins(%v, %+v) is %d, not %d", m, c, got, want)
		}
	})
	m := impl.PlcMap{Cells: 3, Width: 4}
	c := turnedCell(bareCell(1), func(c *impl.CllCell) {
		c.Walkers = []impl.WlkWalker{{Id: 1, At: 4, Coins: 1}, {Id: 2, At: 5, Coins: 20}}
		c.Ground = 300
		c.Outs[0] = []impl.PclParcel{{N: 0, Kind: 2, Coins: 4}, {N: 1, Kind: 1, Walker: impl.WlkWalker{Id: 2, At: 3, Coins: 50}}}
		c.Outs[1] = []impl.PclParcel{{N: 7, Kind: 2, Coins: 3}}
		c.Next = []int{2, 8}
	})
	if got := impl.CllCoins(m, c); got != 378 {
		t.Errorf("CllCoins is %d", got)
	}
}
