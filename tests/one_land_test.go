package tests

import (
	"math/rand"
	"testing"

	"loop.example/landmarch/impl"
)

// askLand asks that a walker lands as the words say, and for P60.
func askLand(t *testing.T, o impl.OneWorld, id int) impl.OneWorld {
	t.Helper()
	got := impl.OneLand(o, id)
	if want := oneLandPlainly(o, id); !sameOne(got, want) {
		t.Fatalf("OneLand(%+v, %d) is not so: %s", o, id, onesApart(got, want))
	}
	back := turnedOne(got, func(o2 *impl.OneWorld) {
		if i := onePlace(o, id); i >= 0 {
			o2.Walkers[i].Here = o.Walkers[i].Here
		}
	})
	if !sameOne(back, o) || !askOne(t, got) || impl.OneCoins(got) != impl.OneCoins(o) {
		t.Fatalf("OneLand(%+v, %d) turns more than that the walker is there: %+v", o, id, got)
	}
	if again := impl.OneLand(got, id); !sameOne(again, got) {
		t.Fatalf("OneLand(%+v, %d) twice is not as once: %s", o, id, onesApart(again, got))
	}
	return got
}

func TestP60WalkersLand(t *testing.T) {
	tally := map[string]int{}
	eachOne(t, 411, 60, func(_ *rand.Rand, o impl.OneWorld) {
		for _, id := range numbersAround(0, 10) {
			got := askLand(t, o, id)
			switch i := onePlace(o, id); {
			case i < 0:
				tally["nobody"]++
			case o.Walkers[i].Here:
				tally["who is there"]++
			default:
				tally["who is on its way"]++
				if !got.Walkers[i].Here {
					t.Fatalf("OneLand(%+v, %d) is %+v", o, id, got)
				}
			}
		}
	})
	if tally["nobody"] < 20 || tally["who is there"] < 20 || tally["who is on its way"] < 20 {
		t.Errorf("too few: %v", tally)
	}
}

// Who lands does its next order, and not ahead of that; the others are as they were.
func TestP60WhoHasLandedDoesOrders(t *testing.T) {
	o := codesOne()
	for _, id := range []int{0, 7, 9, 10, -6} {
		if got := askLand(t, o, id); !sameOne(got, o) {
			t.Errorf("the walker %d, who is none, lands: %+v", id, got)
		}
	}
	for id := 1; id <= 5; id++ {
		if got := askLand(t, o, id); !sameOne(got, o) {
			t.Errorf("the walker %d, who is there, lands: %+v", id, got)
		}
	}
	drop := impl.OrdOrder{Who: 6, Seq: 1, Kind: impl.OrdDrop, N: 4}
	if _, code := askOneDo(t, o, drop); code != impl.CodeAway {
		t.Errorf("who is on its way drops coins: %d", code)
	}
	got, code := askOneDo(t, askLand(t, o, 6), drop)
	if code != impl.CodeDone || got.Ground[1] != 24 || got.Walkers[5] != (impl.OneWalker{Walker: impl.WlkWalker{Id: 6, At: 4, Coins: 6, Seq: 1, Last: 1}, Here: true}) {
		t.Errorf("behind it there is %+v, %d", got, code)
	}
	// All at once: each lands by itself.
	all := turnedOne(o, func(o *impl.OneWorld) {
		for i := range o.Walkers {
			o.Walkers[i].Here = false
		}
	})
	for i := range all.Walkers {
		got := askLand(t, all, i+1)
		for j, w := range got.Walkers {
			if w.Here != (i == j) {
				t.Errorf("behind the walker %d there is %+v", i+1, got)
			}
		}
	}
}

// askDown asks that coins fall as the words say, and for P61; it is whether they do.
func askDown(t *testing.T, o impl.OneWorld, cell, side, n int) bool {
	t.Helper()
	got := impl.OneDown(o, cell, side, n)
	if want := oneDownPlainly(o, cell, side, n); !sameOne(got, want) {
		t.Fatalf("OneDown(%+v, %d, %d, %d) is not so: %s", o, cell, side, n, onesApart(got, want))
	}
	if !askOne(t, got) || impl.OneCoins(got) != impl.OneCoins(o) {
		t.Fatalf("OneDown(%+v, %d, %d, %d) is not ok, or has not as many coins: %+v", o, cell, side, n, got)
	}
	if sameOne(got, o) {
		return false
	}
	back := turnedOne(got, func(o *impl.OneWorld) {
		o.Ground[cell] -= n
		o.Air[cell][side] += n
	})
	if !sameOne(back, o) {
		t.Fatalf("OneDown(%+v, %d, %d, %d) turns something else: %+v", o, cell, side, n, got)
	}
	return true
}

func TestP61CoinsFall(t *testing.T) {
	count := map[bool]int{}
	eachOne(t, 412, 40, func(_ *rand.Rand, o impl.OneWorld) {
		for cell := -1; cell <= o.Map.Cells; cell++ {
			for side := -1; side <= 2; side++ {
				numbers := append([]int{-9, -1, 0, 1, 2, 9, 900, 901, 99999, 100000, 100001}, farNumbers...)
				if cell >= 0 && cell < o.Map.Cells && (side == 0 || side == 1) {
					air, room := o.Air[cell][side], 900-o.Ground[cell]
					numbers = append(numbers, air-1, air, air+1, room-1, room, room+1)
				}
				for _, n := range numbers {
					count[askDown(t, o, cell, side, n)]++
				}
			}
		}
	})
	if count[true] < 500 || count[false] < 500 {
		t.Errorf("so often coins fall, so often not: %v", count)
	}
}

// Each bound by itself, in each cell, from each side, the first and the last ones included: the air is asked for where it comes from no cell, too.
func TestP61CoinsAtTheirBounds(t *testing.T) {
	for _, m := range okMaps() {
		for cell := range m.Cells {
			for side := range 2 {
				bare := bareOne(m)
				for _, row := range []struct {
					why            string
					air, ground, n int
					falls          bool
				}{
					{"none", 5, 7, 0, false},
					{"less than none", 5, 7, -1, false},
					{"one", 5, 7, 1, true},
					{"the only one", 1, 0, 1, true},
					{"one of none", 0, 0, 1, false},
					{"none of none", 0, 0, 0, false},
					{"all but one", 5, 7, 4, true},
					{"all", 5, 7, 5, true},
					{"one more than all", 5, 7, 6, false},
					{"more than an order has", 40, 7, 40, true},
					{"up to the most on the ground", 5, 895, 5, true},
					{"room for all but one", 5, 896, 5, false},
					{"what there is room for", 5, 896, 4, true},
					{"on a full ground", 5, 900, 1, false},
					{"from nothing to the most", 900, 0, 900, true},
					{"one more than the ground has", 901, 0, 901, false},
					{"the most in the air", 100000, 0, 900, true},
					{"all of the most", 100000, 0, 100000, false},
					{"one more than the most", 100000, 0, 100001, false},
				} {
					o := turnedOne(bare, oneGround(cell, row.ground), oneAir(cell, side, row.air))
					if got := askDown(t, o, cell, side, row.n); got != row.falls {
						t.Errorf("%s: on %v in the cell %d from the side %d coins fall: %v", row.why, m, cell, side, got)
					}
					// The other side's air does not fall, nor another cell's; nor are they in the way.
					other := turnedOne(o, oneAir(cell, 1-side, 100000-row.air), oneAir((cell+1)%m.Cells, side, 77), oneGround((cell+1)%m.Cells, 900))
					if got := askDown(t, other, cell, side, row.n); got != row.falls {
						t.Errorf("%s: with other coins on %v in the cell %d from the side %d coins fall: %v", row.why, m, cell, side, got)
					}
				}
			}
		}
	}
}

func TestP61CellsAndSidesThatAreNone(t *testing.T) {
	o := turnedOne(codesOne(), oneGround(0, 0))
	for _, n := range []int{0, 1, 2} {
		for _, cell := range append([]int{-2, -1, 3, 4}, farNumbers...) {
			for _, side := range sidesAround {
				if askDown(t, o, cell, side, n) {
					t.Errorf("in the cell %d coins fall", cell)
				}
			}
		}
		for _, side := range append([]int{-2, -1, 2, 3}, farNumbers...) {
			for cell := range 3 {
				if askDown(t, o, cell, side, n) {
					t.Errorf("from the side %d coins fall", side)
				}
			}
		}
	}
	// The sides of the first and of the last cell on which there is none have their air all the same.
	if !askDown(t, o, 0, 0, 1) || !askDown(t, o, 2, 1, 6) {
		t.Errorf("from the ends of the map no coins fall")
	}
}

func TestP3CoinsOfTheOneWorld(t *testing.T) {
	eachOne(t, 413, 100, func(_ *rand.Rand, o impl.OneWorld) {
		if !askOne(t, o) {
			t.Fatalf("%+v is not ok", o)
		}
	})
	if got := impl.OneCoins(codesOne()); got != 60+60+21 {
		t.Errorf("OneCoins is %d", got)
	}
	for _, m := range okMaps() {
		full := bareOne(m)
		if got := impl.OneCoins(full); got != 0 {
			t.Errorf("of nothing OneCoins is %d", got)
		}
		for cell := range m.Cells {
			full.Ground[cell], full.Air[cell] = 900, []int{100000, 100000}
		}
		for id := 1; id <= 9; id++ {
			full.Walkers = append(full.Walkers, impl.OneWalker{Walker: impl.WlkWalker{Id: id, Coins: 99}, Here: id%2 == 0})
		}
		if got := impl.OneCoins(full); got != 891+200900*m.Cells {
			t.Errorf("of all on %v OneCoins is %d", m, got)
		}
		for i := range full.Walkers {
			askOne(t, turnedOne(full, func(o *impl.OneWorld) { o.Walkers[i].Walker.Coins = i }))
		}
	}
}
