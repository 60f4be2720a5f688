package tests

import (
	"math/rand"
	"slices"
	"testing"

	"loop.example/landmarch/impl"
)

// ghostsMap is the one of wrongGhosts: the places 0..3, 4..7 and 8..11 in its cells.
var ghostsMap = impl.PlcMap{Cells: 3, Width: 4}

func TestP36GhostsThatAreOk(t *testing.T) {
	sum := 0
	for _, m := range okMaps() {
		for from := -2; from <= m.Cells+1; from++ {
			for _, at := range numbersAround(0, m.Cells*m.Width-1) {
				g := impl.GstGhost{From: from, Count: 5, Walker: impl.WlkWalker{Id: 5, At: at}}
				got := impl.GstOk(m, g)
				if got != ghostOkPlainly(m, g) {
					t.Fatalf("GstOk(%v, %+v) is %v", m, g, got)
				}
				if got {
					sum++
				}
			}
		}
		for _, count := range numbersAround(0, 250) {
			g := impl.GstGhost{From: 1, Count: count, Walker: impl.WlkWalker{Id: 1, At: m.Width}}
			if got, want := impl.GstOk(m, g), count >= 0 && count <= 250; got != want {
				t.Errorf("GstOk(%v, %+v) is %v", m, g, got)
			}
		}
		for _, bound := range walkerBounds {
			for _, n := range numbersAround(bound.low, bound.high) {
				g := impl.GstGhost{From: 0, Count: 1, Walker: impl.WlkWalker{Id: 5, At: m.Width - 1, Coins: 7, Seq: 8, Last: 1}}
				bound.set(&g.Walker, n)
				if got, want := impl.GstOk(m, g), n >= bound.low && n <= bound.high; got != want {
					t.Errorf("GstOk(%v, %+v) is %v: %s", m, g, got, bound.name)
				}
			}
		}
	}
	// Two for each border of each map.
	if sum != 2*7*(1+2+3) {
		t.Errorf("%d were ok", sum)
	}
}

func TestP36GhostsThatAreNotOk(t *testing.T) {
	good := impl.GstGhost{From: 1, Count: 3, Walker: impl.WlkWalker{Id: 5, At: 4}}
	for why, g := range wrongGhosts() {
		if impl.GstOk(ghostsMap, g) {
			t.Errorf("%s: GstOk(%+v) is true", why, g)
		}
		for _, list := range [][]impl.GstGhost{nil, {}, {good}, tooManyGhosts()[:20], {g}} {
			if got := impl.GstPut(ghostsMap, list, g); len(got) != 0 {
				t.Errorf("%s: GstPut(%+v, %+v) is %+v", why, list, g, got)
			}
		}
	}
	for why, list := range wrongGhostLists() {
		if impl.GstListOk(ghostsMap, list) {
			t.Errorf("%s: GstListOk(%+v) is true", why, list)
		}
		for _, g := range append(slices.Clone(list), good, impl.GstGhost{}) {
			if got := impl.GstPut(ghostsMap, list, g); len(got) != 0 {
				t.Errorf("%s: GstPut(%+v, %+v) is %+v", why, list, g, got)
			}
		}
	}
}

// Of no ghosts all are ok, and they rise: that asks nothing of the map. A ghost on a map that is not ok is none, so that nothing can be put there.
func TestP36GhostsOnMapsThatAreNotOk(t *testing.T) {
	for _, m := range append(okMaps(), badMaps()...) {
		for _, list := range [][]impl.GstGhost{nil, {}, make([]impl.GstGhost, 0, 3)} {
			if !impl.GstListOk(m, list) {
				t.Errorf("GstListOk(%v, %v) is false", m, list)
			}
		}
	}
	for _, m := range badMaps() {
		for from := range 3 {
			for at := range 12 {
				g := impl.GstGhost{From: from, Count: 1, Walker: impl.WlkWalker{Id: 1, At: at}}
				if impl.GstOk(m, g) || impl.GstListOk(m, []impl.GstGhost{g}) || len(impl.GstPut(m, nil, g)) != 0 || len(impl.GstPut(m, []impl.GstGhost{g}, g)) != 0 {
					t.Errorf("on %v the ghost %+v is ok, or was put", m, g)
				}
			}
		}
	}
}

// Cells of one place, at both edges of which a walker would be, are on no map that is ok.
func TestP36P37CellsOfOnePlace(t *testing.T) {
	m := impl.PlcMap{Cells: 3, Width: 1}
	c := bareCell(1)
	c.Walkers = []impl.WlkWalker{{Id: 1, At: 1}}
	g := impl.GstGhost{From: 1, Walker: c.Walkers[0]}
	if impl.GstOk(m, g) || impl.GstListOk(m, []impl.GstGhost{g}) || len(impl.GstPut(m, nil, g)) != 0 {
		t.Errorf("%+v is a ghost on %v", g, m)
	}
	for side := -1; side <= 2; side++ {
		if got := impl.GstOf(m, impl.HldHolder{Age: 1, State: c}, side); len(got) != 0 {
			t.Errorf("towards %d GstOf is %+v", side, got)
		}
	}
}

func TestP36ListsOfGhostsThatAreOk(t *testing.T) {
	count := map[bool]int{}
	eachGhosts(241, 10, func(r *rand.Rand, m impl.PlcMap, list []impl.GstGhost) {
		if !impl.GstListOk(m, list) || !ghostsOkPlainly(m, list) {
			t.Fatalf("GstListOk(%v, %+v) is false", m, list)
		}
		for i := range list {
			turned := slices.Clone(list)
			switch r.Intn(4) {
			case 0:
				turned[i] = ghostOf(r, m, r.Intn(m.Cells), 1+r.Intn(9))
			case 1:
				k := r.Intn(len(list))
				turned[i], turned[k] = turned[k], turned[i]
			case 2:
				turned = slices.Insert(turned, i, turned[i])
			case 3:
				turned = slices.Delete(turned, i, i+1)
			}
			got := impl.GstListOk(m, turned)
			if got != ghostsOkPlainly(m, turned) {
				t.Fatalf("GstListOk(%v, %+v) is %v", m, turned, got)
			}
			count[got]++
		}
	})
	if count[true] < 500 || count[false] < 500 {
		t.Errorf("so many were ok: %v", count)
	}
	list := tooManyGhosts()
	if !impl.GstListOk(ghostsMap, list[:20]) || !impl.GstListOk(ghostsMap, list[1:]) || impl.GstListOk(ghostsMap, list) {
		t.Errorf("of 20 ghosts, 20 others and all of them GstListOk is %v, %v, %v", impl.GstListOk(ghostsMap, list[:20]), impl.GstListOk(ghostsMap, list[1:]), impl.GstListOk(ghostsMap, list))
	}
}

// askPut asks that a ghost is put among others as the words say; all is ok.
func askPut(t *testing.T, m impl.PlcMap, list []impl.GstGhost, g impl.GstGhost) []impl.GstGhost {
	t.Helper()
	got := impl.GstPut(m, list, g)
	if want := keptPlainly(list, g); !slices.Equal(got, want) {
		t.Fatalf("GstPut(%v, %+v, %+v) is\n%+v, not\n%+v", m, list, g, got, want)
	}
	if !impl.GstListOk(m, got) {
		t.Fatalf("GstPut(%v, %+v, %+v) is %+v, which is not ok", m, list, g, got)
	}
	return got
}

func TestP36GhostsArePut(t *testing.T) {
	eachGhosts(242, 6, func(r *rand.Rand, m impl.PlcMap, list []impl.GstGhost) {
		for from := range m.Cells {
			for id := 1; id <= 9; id++ {
				askPut(t, m, list, ghostOf(r, m, from, id))
			}
		}
	})
}

// The one with the greater Count is kept in its place; the one that was there, if the Counts are the same.
func TestP36TheLaterGhostIsKept(t *testing.T) {
	eachGhosts(243, 4, func(r *rand.Rand, m impl.PlcMap, list []impl.GstGhost) {
		for i, was := range list {
			for _, by := range []int{-250, -2, -1, 0, 1, 2, 250} {
				g := ghostOf(r, m, was.From, was.Walker.Id)
				g.Count = was.Count + by
				g.Walker.Coins = (was.Walker.Coins + 1) % 100
				if g.Count < 0 || g.Count > 250 {
					continue
				}
				want := slices.Clone(list)
				if by > 0 {
					want[i] = g
				}
				if got := askPut(t, m, list, g); !slices.Equal(got, want) {
					t.Fatalf("GstPut(%v, %+v, %+v) is %+v", m, list, g, got)
				}
			}
		}
	})
}

// Two of one walker from one cell whose Counts differ leave the same in either order, and any others wherever both have room.
func TestP36TheOrderInWhichTheyCome(t *testing.T) {
	put := func(m impl.PlcMap, list []impl.GstGhost, ghosts ...impl.GstGhost) []impl.GstGhost {
		for _, g := range ghosts {
			list = impl.GstPut(m, list, g)
		}
		return list
	}
	eachGhosts(244, 12, func(r *rand.Rand, m impl.PlcMap, list []impl.GstGhost) {
		for from := range m.Cells {
			id := 1 + r.Intn(9)
			one, other := ghostOf(r, m, from, id), ghostOf(r, m, from, id)
			if one.Count != other.Count && !slices.Equal(put(m, list, one, other), put(m, list, other, one)) {
				t.Fatalf("on %v, %+v and %+v among %+v: it hangs on their order", m, one, other, list)
			}
			third := ghostOf(r, m, r.Intn(m.Cells), 1+id%9)
			if len(list) <= 18 && !slices.Equal(put(m, list, one, third), put(m, list, third, one)) {
				t.Fatalf("on %v, %+v and %+v among %+v: it hangs on their order", m, one, third, list)
			}
		}
	})
}

// Ghosts that come one behind the other, in any order: of each walker from each cell the latest is kept.
func TestP36ManyGhostsInAnyOrder(t *testing.T) {
	r := rand.New(rand.NewSource(245))
	m := impl.PlcMap{Cells: 2, Width: 2}
	for range 60 {
		var all []impl.GstGhost
		for from := range 2 {
			for id := 1; id <= 9; id++ {
				for _, count := range r.Perm(251)[:3] {
					g := ghostOf(r, m, from, id)
					g.Count = count
					all = append(all, g)
				}
			}
		}
		var want []impl.GstGhost
		for i := 0; i < len(all); i += 3 {
			want = append(want, slices.MaxFunc(all[i:i+3], func(a, b impl.GstGhost) int { return a.Count - b.Count }))
		}
		var list []impl.GstGhost
		for _, i := range r.Perm(len(all)) {
			list = askPut(t, m, list, all[i])
		}
		if !slices.Equal(list, want) {
			t.Fatalf("of %+v are kept %+v", all, list)
		}
	}
}

// Up to GstMax ghosts are kept; then only what is known can be later.
func TestP36AsManyGhostsAsThereMayBe(t *testing.T) {
	all := tooManyGhosts()
	var list []impl.GstGhost
	for i, g := range all {
		list = askPut(t, ghostsMap, list, g)
		if len(list) != min(i+1, 20) {
			t.Fatalf("behind %d ghosts there are %d", i+1, len(list))
		}
	}
	if !slices.Equal(list, all[:20]) {
		t.Fatalf("kept are %+v", list)
	}
	// From the back the first one finds no room, though its place is ahead of all.
	list = nil
	for i := range all {
		list = askPut(t, ghostsMap, list, all[len(all)-1-i])
	}
	if !slices.Equal(list, all[1:]) {
		t.Fatalf("from the back are kept %+v", list)
	}
	for i, g := range list {
		g.Count, g.Walker.Coins = 250, 7
		got := askPut(t, ghostsMap, list, g)
		if len(got) != 20 || got[i] != g {
			t.Errorf("a later one is not in its place: %+v", got)
		}
		g.Count = 0
		if got := askPut(t, ghostsMap, list, g); !slices.Equal(got, list) {
			t.Errorf("an earlier one turned %+v to %+v", list, got)
		}
	}
	late := all[0]
	late.Count = 250
	if got := askPut(t, ghostsMap, list, late); !slices.Equal(got, list) {
		t.Errorf("one that is not known found room: %+v", got)
	}
}

// One walker from two cells is two ghosts, and two walkers from one cell are.
func TestP36KeysOfGhosts(t *testing.T) {
	one := impl.GstGhost{From: 0, Count: 9, Walker: impl.WlkWalker{Id: 5, At: 3}}
	elsewhere := impl.GstGhost{From: 1, Count: 4, Walker: impl.WlkWalker{Id: 5, At: 4}}
	other := impl.GstGhost{From: 0, Count: 4, Walker: impl.WlkWalker{Id: 6, At: 3}}
	ahead := impl.GstGhost{From: 1, Count: 9, Walker: impl.WlkWalker{Id: 2, At: 7}}
	moved := impl.GstGhost{From: 1, Count: 5, Walker: impl.WlkWalker{Id: 5, At: 7, Coins: 3, Seq: 2, Last: 1}}
	for _, row := range []struct {
		why  string
		list []impl.GstGhost
		put  impl.GstGhost
		want []impl.GstGhost
	}{
		{"the first one", nil, one, []impl.GstGhost{one}},
		{"from another cell", []impl.GstGhost{one}, elsewhere, []impl.GstGhost{one, elsewhere}},
		{"from another cell, ahead", []impl.GstGhost{elsewhere}, one, []impl.GstGhost{one, elsewhere}},
		{"another walker", []impl.GstGhost{one}, other, []impl.GstGhost{one, other}},
		{"another walker, ahead", []impl.GstGhost{other}, one, []impl.GstGhost{one, other}},
		{"between", []impl.GstGhost{one, elsewhere}, other, []impl.GstGhost{one, other, elsewhere}},
		{"by its cell ahead of its number", []impl.GstGhost{one, elsewhere}, ahead, []impl.GstGhost{one, ahead, elsewhere}},
		{"at the other edge, later", []impl.GstGhost{one, elsewhere}, moved, []impl.GstGhost{one, moved}},
		{"at the other edge, earlier", []impl.GstGhost{one, moved}, elsewhere, []impl.GstGhost{one, moved}},
		{"the same once more", []impl.GstGhost{one, elsewhere}, one, []impl.GstGhost{one, elsewhere}},
	} {
		if got := askPut(t, ghostsMap, row.list, row.put); !slices.Equal(got, row.want) {
			t.Errorf("%s: %+v, not %+v", row.why, got, row.want)
		}
	}
}
