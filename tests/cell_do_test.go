package tests

import (
	"math/rand"
	"slices"
	"testing"

	"loop.example/landmarch/impl"
)

// askDo asks that an order does what the words say, and that what is behind it is ok, with as many coins.
func askDo(t *testing.T, m impl.PlcMap, c impl.CllCell, o impl.OrdOrder) (impl.CllCell, int) {
	t.Helper()
	got, code := impl.CllDo(m, c, o)
	want, wantCode := doPlainly(m, c, o)
	if code != wantCode || !sameCell(got, want) {
		t.Fatalf("CllDo(%v, %+v, %v) is\n%+v, %d, not\n%+v, %d", m, c, o, got, code, want, wantCode)
	}
	if !impl.CllOk(m, got) || !cellOkPlainly(m, got) {
		t.Fatalf("CllDo(%v, %+v, %v) is not ok: %+v", m, c, o, got)
	}
	if impl.CllCoins(m, got) != impl.CllCoins(m, c) || coinsPlainly(got) != coinsPlainly(c) {
		t.Fatalf("CllDo(%v, %+v, %v) turns how many coins there are: %+v", m, c, o, got)
	}
	if fresh := impl.CllFresh(m, c, o); fresh != freshPlainly(c, o) {
		t.Fatalf("CllFresh(%v, %+v, %v) is %v", m, c, o, fresh)
	}
	return got, code
}

func TestP46P48FreshOrders(t *testing.T) {
	codes := map[[2]int]int{}
	eachFresh(t, 61, 40, func(m impl.PlcMap, c impl.CllCell, o impl.OrdOrder) {
		_, code := askDo(t, m, c, o)
		codes[[2]int{o.Kind, code}]++
	})
	for _, kindAndCode := range [][2]int{{1, 1}, {1, 2}, {2, 1}, {2, 3}, {2, 4}, {2, 5}, {3, 1}, {3, 3}, {3, 5}, {4, 1}, {4, 5}, {4, 6}, {5, 1}, {5, 3}, {5, 5}, {5, 7}, {6, 1}} {
		if codes[kindAndCode] == 0 {
			t.Errorf("no order of the Kind %d came to the code %d", kindAndCode[0], kindAndCode[1])
		}
		delete(codes, kindAndCode)
	}
	if len(codes) != 0 {
		t.Errorf("Kinds and codes that are not of the chapter: %v", codes)
	}
}

func TestP46P47OrdersWithAnySeq(t *testing.T) {
	r := rand.New(rand.NewSource(62))
	eachOkCell(t, 63, 60, func(m impl.PlcMap, c impl.CllCell) {
		for who := 1; who <= 9; who++ {
			orders := deedsOf(who, 0)
			for _, seq := range []int{1, 2, 3, 449, 450, 451, 897, 898, 899, 900} {
				o := orders[r.Intn(len(orders))]
				o.Seq = seq
				askDo(t, m, c, o)
			}
		}
	})
}

func TestP47AnOrderTwice(t *testing.T) {
	away := 0
	eachFresh(t, 64, 15, func(m impl.PlcMap, c impl.CllCell, o impl.OrdOrder) {
		once, code := impl.CllDo(m, c, o)
		twice, again := impl.CllDo(m, once, o)
		if !sameCell(once, twice) {
			t.Fatalf("%v twice in %+v is %+v, once %+v", o, c, twice, once)
		}
		stays := placeOf(once, o.Who) >= 0
		if stays && again != code || !stays && again != impl.CodeAway {
			t.Fatalf("%v in %+v has the code %d, and then %d", o, c, code, again)
		}
		if !stays {
			away++
			return
		}
		for _, seq := range []int{1, o.Seq - 1} {
			earlier := impl.OrdOrder{Who: o.Who, Seq: seq, Kind: impl.OrdRest}
			if got, old := impl.CllDo(m, once, earlier); seq >= 1 && seq < o.Seq && (old != impl.CodeOld || !sameCell(got, once)) {
				t.Fatalf("%v behind %v in %+v has the code %d", earlier, o, c, old)
			}
		}
	})
	if away == 0 {
		t.Error("nobody stepped over an edge")
	}
}

// A Seq that is the walker's own tells its Last, whatever that is and whatever the order.
func TestP47TheSameSeqTellsLast(t *testing.T) {
	m := impl.PlcMap{Cells: 2, Width: 3}
	for last := range 10 {
		c := turnedCell(bareCell(0), func(c *impl.CllCell) {
			c.Walkers = []impl.WlkWalker{{Id: 4, At: 2, Coins: 9, Seq: 5, Last: last}}
		})
		for _, row := range []struct{ seq, code int }{{1, impl.CodeOld}, {4, impl.CodeOld}, {5, last}} {
			for _, o := range deedsOf(4, row.seq) {
				if got, code := impl.CllDo(m, c, o); code != row.code || !sameCell(got, c) {
					t.Fatalf("Last %d: CllDo of %v is %+v, %d", last, o, got, code)
				}
				if impl.CllFresh(m, c, o) {
					t.Fatalf("CllFresh of %v is true", o)
				}
			}
		}
	}
}

// Whoever is not in the cell is away, also if it is in a parcel, and whatever its Seq was.
func TestP47WhoIsNotThereIsAway(t *testing.T) {
	m := impl.PlcMap{Cells: 2, Width: 3}
	c := turnedCell(bareCell(0), func(c *impl.CllCell) {
		c.Walkers = []impl.WlkWalker{{Id: 1, At: 2, Coins: 9}}
		c.Outs[1], c.Next[1] = []impl.PclParcel{{N: 0, Kind: 1, Walker: impl.WlkWalker{Id: 4, At: 3, Seq: 5, Last: 1}}}, 1
	})
	for _, seq := range []int{1, 5, 6, 900} {
		for _, o := range append(deedsOf(4, seq), deedsOf(9, seq)...) {
			if got, code := impl.CllDo(m, c, o); code != impl.CodeAway || !sameCell(got, c) || impl.CllFresh(m, c, o) {
				t.Fatalf("CllDo of %v is %+v, %d", o, got, code)
			}
		}
	}
}

func TestP49OthersStayAsTheyAre(t *testing.T) {
	eachFresh(t, 65, 15, func(m impl.PlcMap, c impl.CllCell, o impl.OrdOrder) {
		got, _ := impl.CllDo(m, c, o)
		for id := 1; id <= 9; id++ {
			before, was := findPlainly(c.Walkers, id)
			after, is := findPlainly(got.Walkers, id)
			mayTurn := id == o.Who || o.Kind == impl.OrdGive && id == o.To
			if !mayTurn && (before != after || was != is) {
				t.Fatalf("%v turned the walker %d of %+v: %+v", o, id, c, got)
			}
		}
		for side, outs := range c.Outs {
			if len(got.Outs[side]) < len(outs) || !slices.Equal(got.Outs[side][:len(outs)], outs) {
				t.Fatalf("%v turned parcels of %+v: %+v", o, c, got)
			}
		}
		if got.Cell != c.Cell || !slices.Equal(got.Ins, c.Ins) {
			t.Fatalf("%v turned Cell or Ins of %+v: %+v", o, c, got)
		}
	})
}

func TestP50WhereTheWalkerIs(t *testing.T) {
	over := 0
	eachFresh(t, 66, 20, func(m impl.PlcMap, c impl.CllCell, o impl.OrdOrder) {
		was, _ := findPlainly(c.Walkers, o.Who)
		got, code := impl.CllDo(m, c, o)
		is, there := findPlainly(got.Walkers, o.Who)
		if o.Kind != impl.OrdStep || code != impl.CodeDone || !impl.PlcEdge(m, was.At, o.To) {
			if !there || is.Seq != o.Seq || is.Last != code {
				t.Fatalf("behind %v, with the code %d, the walker of %+v is %+v, %v", o, code, c, is, there)
			}
			if o.Kind != impl.OrdStep && is.At != was.At {
				t.Fatalf("behind %v the walker of %+v is at %d", o, c, is.At)
			}
			return
		}
		over++
		want := impl.WlkWalker{Id: o.Who, At: was.At + 2*o.To - 1, Coins: was.Coins, Seq: o.Seq, Last: impl.CodeDone}
		askLastParcel(t, c, got, o.To, impl.PclParcel{Kind: impl.PclWalker, Walker: want})
		if there || len(got.Walkers) != len(c.Walkers)-1 {
			t.Fatalf("behind %v over the edge the walker is among %+v", o, got.Walkers)
		}
	})
	if over == 0 {
		t.Error("nobody stepped over an edge")
	}
}

// askLastParcel asks that just this parcel has come to Outs of a side, the last one, with the number that was next.
func askLastParcel(t *testing.T, before, after impl.CllCell, side int, p impl.PclParcel) {
	t.Helper()
	p.N = before.Next[side]
	want := turnedCell(before, func(c *impl.CllCell) {
		c.Outs[side] = append(c.Outs[side], p)
		c.Next[side]++
	})
	want.Walkers = after.Walkers
	if !sameCell(after, want) {
		t.Fatalf("%+v is not %+v with %+v to the side %d", after, before, p, side)
	}
}

func TestP51Gifts(t *testing.T) {
	eachFresh(t, 67, 20, func(m impl.PlcMap, c impl.CllCell, o impl.OrdOrder) {
		if o.Kind != impl.OrdGive {
			return
		}
		got, code := impl.CllDo(m, c, o)
		coins := map[int]int{}
		for _, w := range c.Walkers {
			coins[w.Id] = w.Coins
		}
		if code == impl.CodeDone {
			coins[o.Who] -= o.N
			coins[o.To] += o.N
		}
		for _, w := range got.Walkers {
			if w.Coins != coins[w.Id] {
				t.Fatalf("behind %v, with the code %d, the walkers of %+v are %v", o, code, c, got.Walkers)
			}
		}
		if len(got.Walkers) != len(c.Walkers) || got.Ground != c.Ground {
			t.Fatalf("behind %v %+v is %+v", o, c, got)
		}
		// The other one does nothing itself: its number and code are as they were.
		before, _ := findPlainly(c.Walkers, o.To)
		after, _ := findPlainly(got.Walkers, o.To)
		after.Coins = before.Coins
		if before != after {
			t.Fatalf("behind %v the other one is %+v, was %+v", o, after, before)
		}
	})
}

func TestP52WhoDropsAndPicksHasWhatItHad(t *testing.T) {
	done := 0
	eachFresh(t, 68, 60, func(m impl.PlcMap, c impl.CllCell, o impl.OrdOrder) {
		if o.Kind != impl.OrdDrop || o.Seq == impl.WlkMaxSeq {
			return
		}
		dropped, code := impl.CllDo(m, c, o)
		if code != impl.CodeDone {
			return
		}
		if dropped.Ground != c.Ground+o.N {
			t.Fatalf("behind %v %d coins lie on the ground, ahead of it %d", o, dropped.Ground, c.Ground)
		}
		picked, code := impl.CllDo(m, dropped, impl.OrdOrder{Who: o.Who, Seq: o.Seq + 1, Kind: impl.OrdPick, N: o.N})
		want := turnedCell(c, func(c *impl.CllCell) {
			w := &c.Walkers[placeOf(*c, o.Who)]
			w.Seq, w.Last = o.Seq+1, impl.CodeDone
		})
		if code != impl.CodeDone || !sameCell(picked, want) {
			t.Fatalf("behind %v and its pick, with the code %d, %+v is %+v", o, code, c, picked)
		}
		done++
	})
	if done == 0 {
		t.Error("nobody dropped anything")
	}
}

func TestP53Throws(t *testing.T) {
	done := 0
	eachFresh(t, 69, 20, func(m impl.PlcMap, c impl.CllCell, o impl.OrdOrder) {
		if o.Kind != impl.OrdThrow {
			return
		}
		was, _ := findPlainly(c.Walkers, o.Who)
		got, code := impl.CllDo(m, c, o)
		can := impl.PlcEdge(m, was.At, o.To) && was.Coins >= o.N && c.Next[o.To] < impl.PclMaxN
		if can != (code == impl.CodeDone) {
			t.Fatalf("CllDo(%v, %+v, %v) has the code %d", m, c, o, code)
		}
		if !can {
			if !slices.EqualFunc(got.Outs, c.Outs, slices.Equal[[]impl.PclParcel]) || !slices.Equal(got.Next, c.Next) {
				t.Fatalf("behind %v, which is not done, %+v is %+v", o, c, got)
			}
			return
		}
		done++
		askLastParcel(t, c, got, o.To, impl.PclParcel{Kind: impl.PclCoins, Coins: o.N})
		if is, _ := findPlainly(got.Walkers, o.Who); is.Coins != was.Coins-o.N {
			t.Fatalf("behind %v the walker has %d coins, had %d", o, is.Coins, was.Coins)
		}
	})
	if done == 0 {
		t.Error("nothing was thrown")
	}
}

func TestP47OrdersThatAreNotOk(t *testing.T) {
	m := impl.PlcMap{Cells: 2, Width: 3}
	c := turnedCell(bareCell(0), func(c *impl.CllCell) {
		c.Walkers = []impl.WlkWalker{{Id: 1, At: 2, Coins: 50}, {Id: 2, At: 1, Coins: 50}, {Id: 9, At: 2, Coins: 50}}
		c.Ground = 50
	})
	for _, o := range wrongOrders() {
		if got, code := impl.CllDo(m, c, o); !isNothing(got) || code != 0 {
			t.Fatalf("CllDo of %+v is %+v, %d", o, got, code)
		}
		if impl.CllFresh(m, c, o) {
			t.Fatalf("CllFresh of %+v is true", o)
		}
	}
}
