package tests

import (
	"math/rand"
	"slices"
	"testing"

	"loop.example/landmarch/impl"
)

// askTick asks that a server says of a cell, all of it ok, as the words say, and what the promise says of it.
func askTick(t *testing.T, h hearing, cell int) []impl.MsgMsg {
	t.Helper()
	said := h.tick(cell)
	if want := tickPlainly(h, cell); !slices.Equal(said, want) {
		t.Fatalf("of the cell %d %+v says\n%+v, not\n%+v", cell, h, said, want)
	}
	hold, held := impl.SrvHold(h.server, cell)
	if !held && len(said) > 0 {
		t.Fatalf("of the cell %d, which it does not hold, %+v says %+v", cell, h, said)
	}
	for _, x := range said {
		side := 1 - x.Side
		if !impl.MsgOk(h.m, h.servers, x) || x.Cell != impl.PlcSide(h.m, cell, side) || x.To != impl.ArbServer(h.table, x.Cell) {
			t.Fatalf("of the cell %d %+v says %+v", cell, h, x)
		}
		parcel := x.Kind == impl.MsgParcel && slices.Contains(hold.State.Outs[side], x.Parcel)
		ghost := x.Kind == impl.MsgGhost && slices.Contains(impl.GstOf(h.m, hold, side), x.Ghost)
		if !parcel && !ghost {
			t.Fatalf("of the cell %d %+v says %+v", cell, h, x)
		}
	}
	return said
}

func TestP28ServersSayWhatTheyHave(t *testing.T) {
	kinds := map[int]int{}
	eachHearing(t, 301, 120, 8, func(r *rand.Rand, h hearing) {
		for _, cell := range numbersAround(0, h.m.Cells-1) {
			for _, x := range askTick(t, h, cell) {
				kinds[x.Kind]++
			}
		}
	})
	if kinds[impl.MsgParcel] < 200 || kinds[impl.MsgGhost] < 200 || len(kinds) != 2 {
		t.Errorf("so many of each Kind: %v", kinds)
	}
}

// teller is a server that holds the middle one of 3 cells with 2 places, with so many parcels under way to each side, and so many walkers at each edge.
func teller(parcels, walkers [2]int) hearing {
	m := impl.PlcMap{Cells: 3, Width: 2}
	c := bareCell(1)
	id := 0
	for side := range 2 {
		for n := range parcels[side] {
			p := impl.PclParcel{N: 3 + n, Kind: impl.PclCoins, Coins: 1 + n + side}
			if n%2 == 1 {
				p = impl.PclParcel{N: 3 + n, Kind: impl.PclWalker, Walker: impl.WlkWalker{Id: 9, At: 1 + 3*side, Seq: n}}
			}
			c.Outs[side] = append(c.Outs[side], p)
		}
		c.Next[side] = 3 + parcels[side]
		for range walkers[side] {
			id++
			c.Walkers = append(c.Walkers, impl.WlkWalker{Id: id, At: 2 + side, Coins: id})
		}
	}
	return hearing{
		m:       m,
		server:  impl.SrvServer{Up: true, Holds: []impl.HldHolder{{Age: 4, Count: 6, State: c}}},
		table:   impl.ArbTable{Servers: []int{2, -1, 1}, Ages: []int{7, 0, 8}},
		servers: 3,
	}
}

// wantSide is what teller says to a side: the first four of both.
func wantSide(h hearing, side int) []impl.MsgMsg {
	var want []impl.MsgMsg
	there := 2 * side
	state := h.server.Holds[0].State
	for i, p := range state.Outs[side] {
		if i < 4 {
			want = append(want, parcelOf(h.table.Servers[there], there, 1-side, p))
		}
	}
	shown := 0
	for _, w := range state.Walkers {
		if w.At == 2+side && shown < 4 {
			want = append(want, showOf(h.table.Servers[there], there, 1-side, impl.GstGhost{From: 1, Count: 6, Walker: w}))
			shown++
		}
	}
	return want
}

// None, a few, four, and more than four, of both, on either side: first to the left, then to the right.
func TestP28TheFirstFourAreSaid(t *testing.T) {
	for _, left := range []int{0, 1, 3, 4, 5, 6, 9} {
		for _, right := range []int{0, 1, 4, 5, 8} {
			for _, walkers := range [][2]int{{0, 0}, {1, 0}, {0, 2}, {4, 5}, {5, 4}, {3, 6}, {9, 0}, {0, 9}} {
				h := teller([2]int{left, right}, walkers)
				if !serverOkPlainly(h.m, h.server) {
					t.Fatalf("the test's own %+v is not ok", h.server)
				}
				said := askTick(t, h, 1)
				if want := append(wantSide(h, 0), wantSide(h, 1)...); !slices.Equal(said, want) {
					t.Fatalf("%+v says\n%+v, not\n%+v", h, said, want)
				}
				if count := min(left, 4) + min(right, 4) + min(walkers[0], 4) + min(walkers[1], 4); len(said) != count {
					t.Errorf("of %d and %d parcels and %v walkers it says %d", left, right, walkers, len(said))
				}
			}
		}
	}
}

// Nothing is said to a cell that no server has, and nothing of a cell that is not held.
func TestP28ToNobody(t *testing.T) {
	h := teller([2]int{2, 3}, [2]int{1, 2})
	left, right := wantSide(h, 0), wantSide(h, 1)
	nobody := func(cells ...int) hearing {
		other := h
		other.table = cloneTable(h.table)
		for _, cell := range cells {
			nobodyHas(cell)(&other)
		}
		return other
	}
	for why, row := range map[string]struct {
		h    hearing
		want []impl.MsgMsg
	}{
		"both":       {nobody(), append(slices.Clone(left), right...)},
		"right only": {nobody(0), right},
		"left only":  {nobody(2), left},
		"neither":    {nobody(0, 2), nil},
	} {
		if said := askTick(t, row.h, 1); !slices.Equal(said, row.want) {
			t.Errorf("%s: it says %+v, not %+v", why, said, row.want)
		}
	}
	for _, cell := range []int{-1, 0, 2, 3} {
		if said := askTick(t, h, cell); len(said) > 0 {
			t.Errorf("of the cell %d it says %+v", cell, said)
		}
	}
	for why, s := range map[string]impl.SrvServer{"down": {}, "new": impl.SrvNew()} {
		other := h
		other.server = s
		if said := askTick(t, other, 1); len(said) > 0 {
			t.Errorf("%s: it says %+v", why, said)
		}
	}
}

// What it says of one cell is not what it has of another one, and its table alone tells who is there.
func TestP28OfEachCellItsOwn(t *testing.T) {
	h := standing()
	toLeft := []impl.MsgMsg{
		parcelOf(0, 0, impl.PlcRight, impl.PclParcel{N: 3, Kind: impl.PclCoins, Coins: 4}),
		parcelOf(0, 0, impl.PlcRight, impl.PclParcel{N: 4, Kind: impl.PclCoins, Coins: 6}),
		showOf(0, 0, impl.PlcRight, impl.GstGhost{From: 1, Count: 3, Walker: impl.WlkWalker{Id: 1, At: 4, Coins: 5, Seq: 3, Last: impl.CodeFar}}),
	}
	toRight := showOf(1, 2, impl.PlcLeft, impl.GstGhost{From: 1, Count: 3, Walker: impl.WlkWalker{Id: 3, At: 7, Coins: 9, Seq: 1, Last: impl.CodeDone}})
	if said := askTick(t, h, 1); !slices.Equal(said, append(toLeft, toRight)) {
		t.Errorf("of the cell 1 it says %+v", said)
	}
	fromLast := showOf(1, 1, impl.PlcRight, impl.GstGhost{From: 2, Count: 0, Walker: impl.WlkWalker{Id: 6, At: 8, Coins: 1, Seq: 2, Last: 1}})
	if said := askTick(t, h, 2); !slices.Equal(said, []impl.MsgMsg{fromLast}) {
		t.Errorf("of the cell 2 it says %+v", said)
	}
	// A hold of an age that is over does not know it.
	if said := askTick(t, standingWith(storeAge(900)), 1); len(said) != 4 {
		t.Errorf("in an earlier age it says %+v", said)
	}
}

// From a walker that steps over the border to the word that it has come: over two servers, with each word said twice.
func TestP25P26P28AWalkerGoesOver(t *testing.T) {
	m := impl.PlcMap{Cells: 2, Width: 2}
	list := []impl.WlkWalker{{Id: 1, At: 1, Coins: 5}}
	h := hearing{m: m, servers: 2, table: impl.ArbTable{Servers: []int{0, 1}, Ages: []int{1, 1}}}
	h.stores = []impl.StoStore{impl.StoNew(m, 0, list), impl.StoNew(m, 1, list)}
	both := []impl.SrvServer{impl.SrvNew(), impl.SrvNew()}
	twice := func(x impl.MsgMsg) (heard, heard) {
		h.server = both[x.To]
		first := askHear(t, h, x)
		second := askHear(t, h.behind(first), x)
		h, both[x.To] = h.behind(second), second.server
		return first, second
	}
	twice(grantOf(0, 0, 1))
	twice(grantOf(1, 1, 1))
	step := impl.OrdOrder{Who: 1, Seq: 1, Kind: impl.OrdStep, To: impl.PlcRight}
	first, second := twice(askOf(0, 0, step))
	if !slices.Equal(first.said, []impl.MsgMsg{toldOf(0, step, impl.CodeDone)}) || !slices.Equal(second.said, []impl.MsgMsg{awayOf(0, step)}) {
		t.Fatalf("the step is told %+v, then %+v", first.said, second.said)
	}
	h.server = both[0]
	said := askTick(t, h, 0)
	if len(said) != 1 {
		t.Fatalf("of the cell 0 it says %+v", said)
	}
	first, second = twice(said[0])
	if want := []impl.MsgMsg{gotOf(0, 0, impl.PlcRight, 1)}; !slices.Equal(first.said, want) || !slices.Equal(second.said, want) {
		t.Fatalf("the parcel is told %+v, then %+v", first.said, second.said)
	}
	twice(first.said[0])
	if len(h.stores[0].Recs) != 2 || len(h.stores[1].Recs) != 1 {
		t.Errorf("the logs are %+v", h.stores)
	}
	// The order was done in the other cell's log, but its walker has brought along what came of it.
	if first, _ = twice(askOf(1, 1, step)); !slices.Equal(first.said, []impl.MsgMsg{toldOf(1, step, impl.CodeDone)}) {
		t.Errorf("in its new cell the step is told %+v", first.said)
	}
	h.server = both[0]
	if said := askTick(t, h, 0); len(said) != 0 {
		t.Errorf("behind all that of the cell 0 it says %+v", said)
	}
}
