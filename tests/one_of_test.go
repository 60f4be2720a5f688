package tests

import (
	"math/rand"
	"slices"
	"testing"

	"loop.example/landmarch/impl"
)

// askOneOf asks that the one world of a world that is ok is as the words say.
func askOneOf(t *testing.T, w impl.WldWorld) impl.OneWorld {
	t.Helper()
	got, want := impl.OneOf(w), oneOfPlainly(w)
	if !sameOne(got, want) {
		t.Fatalf("OneOf(%+v) is not so: %s", w, onesApart(got, want))
	}
	askOne(t, got)
	return got
}

// worldOfCells is a new world whose stores begin with some cells.
func worldOfCells(t *testing.T, m impl.PlcMap, cells ...impl.CllCell) impl.WldWorld {
	t.Helper()
	w := newWorldPlainly(m, nil, 1)
	for cell, c := range cells {
		w.Stores[cell].Base = c
	}
	if !worldOkPlainly(w) {
		t.Fatalf("the test's own %+v is not ok", w)
	}
	return w
}

// bordersMeet lets the cells of a world, each by itself anything, have taken in nearly what the ones beside have sent: some of it, all, none, and more.
func bordersMeet(r *rand.Rand, m impl.PlcMap, cells []impl.CllCell) {
	for cell := range cells {
		for side := range 2 {
			there := besidePlainly(m, cell, side)
			if there == -1 {
				continue
			}
			next := cells[cell].Next[side]
			cells[there].Ins[1-side] = max(0, min(5000, next-r.Intn(6)+1))
		}
	}
}

// meetingWorld is a world to which WldNew need not lead, with parcels under way, parcels that have come and were not let go of, and walkers of one number; with logs of at most so many records.
func meetingWorld(r *rand.Rand, m impl.PlcMap, size int) impl.WldWorld {
	w := newWorldPlainly(m, nil, 1+r.Intn(3))
	var cells []impl.CllCell
	for cell := range m.Cells {
		cells = append(cells, anyOkCell(r, m, cell))
	}
	bordersMeet(r, m, cells)
	for cell, c := range cells {
		w.Stores[cell].Base = c
		w.Stores[cell].Recs = someLog(r, m, c, r.Intn(size+1))
	}
	return w
}

// countOne counts what there is in a one world, and of what its states have, so that the worlds are seen to come to all of it.
func countOne(w impl.WldWorld, o impl.OneWorld, tally map[string]int) {
	count := func(name string, there bool) {
		if there {
			tally[name]++
		}
	}
	for i, one := range o.Walkers {
		count("a walker there", one.Here)
		count("a walker on its way", !one.Here)
		if i > 0 && o.Walkers[i-1].Walker.Id == one.Walker.Id {
			other := o.Walkers[i-1]
			count("two of one number there", one.Here && other.Here)
			count("one there and one on its way", other.Here && !one.Here)
			count("two of one number on their way", !one.Here && !other.Here)
			count("two of one number in one cell", one.Walker.At/o.Map.Width == other.Walker.At/o.Map.Width)
		}
	}
	for cell := range o.Map.Cells {
		count("coins on the ground", o.Ground[cell] > 0)
		count("air from the left", o.Air[cell][0] > 0)
		count("air from the right", o.Air[cell][1] > 0)
		state, _ := foldPlainly(w.Map, w.Stores[cell].Base, w.Stores[cell].Recs)
		for side, parcels := range state.Outs {
			for _, p := range parcels {
				there := w.Stores[besidePlainly(w.Map, cell, side)]
				other, _ := foldPlainly(w.Map, there.Base, there.Recs)
				name := []string{"", "a walker", "coins"}[p.Kind] + " to the " + []string{"left", "right"}[side]
				if p.N < other.Ins[1-side] {
					name += " that came and were not let go of"
				}
				tally[name]++
			}
		}
	}
}

// askTally asks that there were some of each of these.
func askTally(t *testing.T, tally map[string]int, least int, names ...string) {
	t.Helper()
	for _, name := range names {
		if tally[name] < least {
			t.Errorf("too few of %q: %v", name, tally)
		}
	}
}

// borderNames is all that countOne tells of parcels.
var borderNames = []string{
	"a walker to the left", "a walker to the right", "coins to the left", "coins to the right",
	"a walker to the left that came and were not let go of", "a walker to the right that came and were not let go of",
	"coins to the left that came and were not let go of", "coins to the right that came and were not let go of",
}

func TestP2OneWorldsOfAnyWorld(t *testing.T) {
	tally := map[string]int{}
	r := rand.New(rand.NewSource(421))
	for _, m := range []impl.PlcMap{{Cells: 2, Width: 2}, {Cells: 3, Width: 3}, {Cells: 4, Width: 8}} {
		for range 150 {
			w := meetingWorld(r, m, 12)
			if !worldOkPlainly(w) {
				t.Fatalf("the test's own %+v is not ok", w)
			}
			countOne(w, askOneOf(t, w), tally)
		}
	}
	eachWorld(t, 422, 40, 6, func(_ *rand.Rand, w impl.WldWorld) { countOne(w, askOneOf(t, w), tally) })
	askTally(t, tally, 30, "a walker there", "a walker on its way", "coins on the ground", "air from the left", "air from the right",
		"two of one number there", "one there and one on its way", "two of one number on their way", "two of one number in one cell")
	askTally(t, tally, 50, borderNames...)
}

// What stands in the stores counts alone: not holds, messages, table, book or notes.
func TestP2OnlyTheStoresAreAsked(t *testing.T) {
	for why, w := range calmCases() {
		want := askOneOf(t, w)
		bare := newWorldPlainly(w.Map, nil, 1)
		for cell, s := range w.Stores {
			bare.Stores[cell].Base, bare.Stores[cell].Recs = s.Base, s.Recs
		}
		if got := impl.OneOf(bare); !sameOne(got, want) {
			t.Errorf("%s: the stores alone are%s", why, onesApart(got, want))
		}
	}
}

// A parcel whose number is one below Ins has come; from Ins on it has not. At each border, towards both sides; Ins of the other side, and of other cells, are not asked.
func TestP1ParcelsAroundIns(t *testing.T) {
	m := impl.PlcMap{Cells: 4, Width: 2}
	for cell := range m.Cells {
		for side := range 2 {
			there := besidePlainly(m, cell, side)
			if there == -1 {
				continue
			}
			for ins := 0; ins <= 9; ins++ {
				for _, others := range []int{0, 6, 5000} {
					cells := []impl.CllCell{bareCell(0), bareCell(1), bareCell(2), bareCell(3)}
					for c := range cells {
						for s := range 2 {
							if besidePlainly(m, c, s) >= 0 {
								cells[c].Ins[s] = others
							}
						}
					}
					cells[there].Ins[1-side] = ins
					walker := func(id int) impl.WlkWalker {
						return impl.WlkWalker{Id: id, At: there*2 + id%2, Coins: id, Seq: 9, Last: 1}
					}
					cells[cell].Outs[side] = []impl.PclParcel{
						{N: 3, Kind: impl.PclCoins, Coins: 1}, {N: 4, Kind: impl.PclWalker, Walker: walker(7)},
						{N: 5, Kind: impl.PclCoins, Coins: 2}, {N: 6, Kind: impl.PclWalker, Walker: walker(3)}, {N: 7, Kind: impl.PclCoins, Coins: 4},
					}
					cells[cell].Next[side] = 8
					want := bareOne(m)
					for _, p := range cells[cell].Outs[side] {
						if p.N >= ins {
							want.Air[there][1-side] += p.Coins
						}
					}
					if ins <= 6 {
						want.Walkers = append(want.Walkers, impl.OneWalker{Walker: walker(3)})
					}
					if ins <= 4 {
						want.Walkers = append(want.Walkers, impl.OneWalker{Walker: walker(7)})
					}
					if got := askOneOf(t, worldOfCells(t, m, cells...)); !sameOne(got, want) {
						t.Errorf("from the cell %d to the side %d, Ins %d: %s", cell, side, ins, onesApart(got, want))
					}
				}
			}
		}
	}
}

// The last numbers: parcels up to 4999, of which the last one has come or not.
func TestP1TheLastParcels(t *testing.T) {
	m := impl.PlcMap{Cells: 2, Width: 2}
	for side := range 2 {
		for ins, want := range map[int]int{4997: 9, 4998: 9, 4999: 8, 5000: 0} {
			cells := []impl.CllCell{bareCell(0), bareCell(1)}
			from, there := 1-side, side
			cells[from].Outs[side] = []impl.PclParcel{{N: 4998, Kind: impl.PclCoins, Coins: 1}, {N: 4999, Kind: impl.PclCoins, Coins: 8}}
			cells[from].Next[side], cells[there].Ins[1-side] = 5000, ins
			if got := askOneOf(t, worldOfCells(t, m, cells...)); got.Air[there][1-side] != want {
				t.Errorf("to the side %d, Ins %d: %+v", side, ins, got)
			}
		}
	}
}

// As many parcels as there may be, of as many coins: all of them are in the air, which is ok.
func TestP2TheMostInTheAir(t *testing.T) {
	m := impl.PlcMap{Cells: 3, Width: 2}
	c := bareCell(1)
	for side := range 2 {
		for n := range 5000 {
			c.Outs[side] = append(c.Outs[side], impl.PclParcel{N: n, Kind: impl.PclCoins, Coins: 9})
		}
		c.Next[side] = 5000
	}
	got := askOneOf(t, worldOfCells(t, m, bareCell(0), c, bareCell(2)))
	if !impl.OneOk(got) || got.Air[0][1] != 45000 || got.Air[2][0] != 45000 || impl.OneCoins(got) != 90000 {
		t.Errorf("there is %+v", got)
	}
}

// By records: what was done, came in and was let go of is told behind all of them, not from the beginning of a log.
func TestP1OneWorldsBehindRecords(t *testing.T) {
	m := impl.PlcMap{Cells: 2, Width: 2}
	throw := impl.OrdOrder{Who: 4, Seq: 1, Kind: impl.OrdThrow, To: impl.PlcRight, N: 3}
	step := impl.OrdOrder{Who: 4, Seq: 2, Kind: impl.OrdStep, To: impl.PlcRight}
	first := turnedCell(bareCell(0), func(c *impl.CllCell) { c.Walkers = []impl.WlkWalker{{Id: 4, At: 1, Coins: 5}} })
	coins := impl.PclParcel{N: 0, Kind: impl.PclCoins, Coins: 3}
	walker := impl.PclParcel{N: 1, Kind: impl.PclWalker, Walker: impl.WlkWalker{Id: 4, At: 2, Coins: 2, Seq: 2, Last: 1}}
	left, right := []impl.LogRec{didOf(throw), didOf(step)}, []impl.LogRec{cameFrom(0, coins), cameFrom(0, walker)}
	ask := func(why string, left, right []impl.LogRec, want impl.OneWorld) {
		t.Helper()
		w := worldOfCells(t, m, first, bareCell(1))
		w.Stores[0].Recs, w.Stores[1].Recs = left, right
		if !worldOkPlainly(w) {
			t.Fatalf("%s: the test's own %+v is not ok", why, w)
		}
		if got := askOneOf(t, w); !sameOne(got, want) {
			t.Errorf("%s: OneOf is%s", why, onesApart(got, want))
		}
	}
	one := turnedOne(bareOne(m), func(o *impl.OneWorld) {
		o.Walkers = []impl.OneWalker{{Walker: impl.WlkWalker{Id: 4, At: 1, Coins: 5}, Here: true}}
	})
	ask("nothing", nil, nil, one)
	one.Walkers[0].Walker = impl.WlkWalker{Id: 4, At: 1, Coins: 2, Seq: 1, Last: 1}
	one.Air[1][0] = 3
	ask("thrown", left[:1], nil, one)
	one.Walkers[0] = impl.OneWalker{Walker: walker.Walker}
	ask("thrown and gone", left, nil, one)
	one.Air[1][0], one.Ground[1] = 0, 3
	ask("the coins have come", left, right[:1], one)
	ask("that is known", append(slices.Clone(left), ackOf(1, 1)), right[:1], one)
	one.Walkers[0].Here = true
	ask("both have come", left, right, one)
	ask("one of both is known", append(slices.Clone(left), ackOf(1, 1)), right, one)
	ask("both are known", append(slices.Clone(left), ackOf(1, 2)), right, one)
	ask("one behind the other is known", append(slices.Clone(left), ackOf(1, 1), ackOf(1, 2)), right, one)
}

// Walkers of one number: cell by cell those that are there, then cell by cell, left and then right, those on their way.
func TestP2WalkersOfOneNumber(t *testing.T) {
	m := impl.PlcMap{Cells: 3, Width: 2}
	// No two are alike: their coins tell them apart.
	walker := func(cell, coins int) impl.WlkWalker { return impl.WlkWalker{Id: 5, At: 2*cell + coins%2, Coins: coins} }
	there := func(cell, coins int) cellTurn {
		return func(c *impl.CllCell) { c.Walkers = []impl.WlkWalker{walker(cell, coins)} }
	}
	sent := func(side int, coins ...int) cellTurn {
		return func(c *impl.CllCell) {
			for _, n := range coins {
				c.Outs[side] = append(c.Outs[side], impl.PclParcel{N: c.Next[side], Kind: impl.PclWalker, Walker: walker(c.Cell+2*side-1, n)})
				c.Next[side]++
			}
		}
	}
	for _, row := range []struct {
		why   string
		turns [3]cellTurn
		want  []int
		here  int
	}{
		{"in all cells", [3]cellTurn{there(0, 9), there(1, 4), there(2, 7)}, []int{9, 4, 7}, 3},
		{"in two cells", [3]cellTurn{there(0, 9), nothingTurns, there(2, 7)}, []int{9, 7}, 2},
		{"there and on its way, from the cell ahead", [3]cellTurn{sent(1, 3), there(1, 8), nothingTurns}, []int{8, 3}, 1},
		{"there and on its way, from the cell behind", [3]cellTurn{there(0, 8), sent(0, 3), nothingTurns}, []int{8, 3}, 1},
		{"there and on its way from there", [3]cellTurn{nothingTurns, both(there(1, 8), sent(0, 3)), nothingTurns}, []int{8, 3}, 1},
		{"there in the last cell, on its way from the first one", [3]cellTurn{sent(1, 2), nothingTurns, there(2, 6)}, []int{6, 2}, 1},
		{"twice to one side", [3]cellTurn{sent(1, 7, 2), nothingTurns, nothingTurns}, []int{7, 2}, 0},
		{"to both sides", [3]cellTurn{nothingTurns, both(sent(1, 1), sent(0, 9)), nothingTurns}, []int{9, 1}, 0},
		{"into one cell from both sides", [3]cellTurn{sent(1, 9), nothingTurns, sent(0, 1)}, []int{9, 1}, 0},
		{"to and fro", [3]cellTurn{sent(1, 9), sent(0, 1), nothingTurns}, []int{9, 1}, 0},
		{"all of that", [3]cellTurn{both(there(0, 3), sent(1, 12, 11)), both(there(1, 2), sent(0, 10), sent(1, 9)), both(there(2, 1), sent(0, 8, 7))}, []int{3, 2, 1, 12, 11, 10, 9, 8, 7}, 3},
	} {
		var cells []impl.CllCell
		for cell, turn := range row.turns {
			c := turnedCell(bareCell(cell), turn)
			// Others around them, in all cells.
			if cell == 1 {
				c.Walkers = append([]impl.WlkWalker{{Id: 2, At: 2}}, c.Walkers...)
				c.Walkers = append(c.Walkers, impl.WlkWalker{Id: 9, At: 3})
			}
			cells = append(cells, c)
		}
		got := askOneOf(t, worldOfCells(t, m, cells...))
		var coins []int
		for _, w := range got.Walkers {
			if w.Walker.Id == 5 {
				if w.Here != (len(coins) < row.here) {
					t.Errorf("%s: who is there is %+v", row.why, got.Walkers)
				}
				coins = append(coins, w.Walker.Coins)
			}
		}
		if !slices.Equal(coins, row.want) || got.Walkers[0].Walker.Id != 2 || got.Walkers[len(got.Walkers)-1].Walker.Id != 9 {
			t.Errorf("%s: the walkers are %+v", row.why, got.Walkers)
		}
		if impl.OneOk(got) || impl.OneCoins(got) != 0 {
			t.Errorf("%s: it is ok", row.why)
		}
	}
}

// The world of a map, walkers and servers that are ok.
func TestP21NewWorldsAsOneWorld(t *testing.T) {
	for i, m := range okMaps() {
		for choice, list := range okWalkers(m, 423) {
			if choice%7 != i%7 {
				continue
			}
			for servers := 1; servers <= 3; servers++ {
				askNewWorld(t, m, list, servers)
			}
		}
		askNewWorld(t, m, nil, 3)
		askNewWorld(t, m, []impl.WlkWalker{{Id: 9, At: m.Cells*m.Width - 1, Coins: 99, Seq: 900, Last: 9}}, 1)
		askNewWorld(t, m, nineWalkers(m.Cells*m.Width), 2)
	}
}

// askNewWorld asks for P21.
func askNewWorld(t *testing.T, m impl.PlcMap, list []impl.WlkWalker, servers int) {
	t.Helper()
	w := impl.WldNew(m, list, servers)
	want := bareOne(m)
	for _, walker := range list {
		want.Walkers = append(want.Walkers, impl.OneWalker{Walker: walker, Here: true})
	}
	if got := askOneOf(t, w); !sameOne(got, want) || !impl.OneOk(got) {
		t.Fatalf("OneOf of the world of %v, %v and %d is%s", m, list, servers, onesApart(got, want))
	}
	for _, s := range w.Servers {
		if !s.Up || len(s.Holds) > 0 || len(s.Ghosts) > 0 {
			t.Fatalf("in the world of %v, %v and %d a server has %+v", m, list, servers, s)
		}
	}
	for cell, s := range w.Stores {
		state := impl.StoState(m, s)
		if s.Age != 0 || len(s.Recs) > 0 || len(state.Outs[0]) > 0 || len(state.Outs[1]) > 0 || impl.WldHeld(w, cell) || impl.ArbServer(w.Table, cell) != -1 {
			t.Fatalf("in the world of %v, %v and %d there is %+v", m, list, servers, w)
		}
	}
	if len(w.Net) > 0 || len(w.Notes) > 0 || len(w.Servers) != servers {
		t.Fatalf("in the world of %v, %v and %d something is on its way: %+v", m, list, servers, w)
	}
}
