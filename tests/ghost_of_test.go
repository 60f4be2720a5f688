package tests

import (
	"math/rand"
	"slices"
	"testing"

	"loop.example/landmarch/impl"
)

// askShown asks that a hold that is ok shows just the walkers at an edge, as they are.
func askShown(t *testing.T, m impl.PlcMap, h impl.HldHolder, side int) []impl.GstGhost {
	t.Helper()
	got := impl.GstOf(m, h, side)
	if want := ghostsOfPlainly(m, h, side); !slices.Equal(got, want) {
		t.Fatalf("GstOf(%v, %+v, %d) is %+v, not %+v", m, h, side, got, want)
	}
	if !impl.GstListOk(m, got) {
		t.Fatalf("GstOf(%v, %+v, %d) is %+v, which is not ok", m, h, side, got)
	}
	for _, w := range h.State.Walkers {
		g := impl.GstGhost{From: h.State.Cell, Count: h.Count, Walker: w}
		if slices.Contains(got, g) != impl.PlcEdge(m, w.At, side) {
			t.Fatalf("GstOf(%v, %+v, %d) is %+v: %+v", m, h, side, got, w)
		}
	}
	return got
}

func TestP37HoldsShowWhoIsAtTheEdge(t *testing.T) {
	r := rand.New(rand.NewSource(251))
	shown := map[int]int{}
	eachOkCell(t, 252, 60, func(m impl.PlcMap, c impl.CllCell) {
		h := impl.HldHolder{Age: oneOf(r, 1, 2, 900), Count: oneOf(r, 0, 1, 125, 249, 250), State: c}
		for _, side := range sidesAround {
			shown[side] += len(askShown(t, m, h, side))
		}
	})
	for _, side := range sidesAround {
		if want := side == impl.PlcLeft || side == impl.PlcRight; want != (shown[side] > 100) || !want && shown[side] != 0 {
			t.Errorf("towards %d were shown %d", side, shown[side])
		}
	}
}

// A walker at each place of each map: towards the end of the map nobody is shown.
func TestP37EachPlace(t *testing.T) {
	for _, m := range okMaps() {
		sum := 0
		for at := range m.Cells * m.Width {
			w := impl.WlkWalker{Id: 5, At: at, Coins: 3, Seq: 2, Last: 1}
			c := bareCell(at / m.Width)
			c.Walkers = []impl.WlkWalker{w}
			for side := -1; side <= 2; side++ {
				sum += len(askShown(t, m, impl.HldHolder{Age: 1, Count: 250, State: c}, side))
			}
		}
		if sum != 2*(m.Cells-1) {
			t.Errorf("on %v were shown %d", m, sum)
		}
	}
}

// All walkers at one edge are shown, in their order, and who is on its way in a parcel is not.
func TestP37AllAtOneEdge(t *testing.T) {
	m := ghostsMap
	c := bareCell(1)
	for id := 1; id <= 9; id++ {
		c.Walkers = append(c.Walkers, impl.WlkWalker{Id: id, At: 7, Coins: 11 * id, Seq: 100 * id, Last: id})
	}
	h := impl.HldHolder{Age: 3, Count: 17, State: twoParcels(m, c, 1)}
	got := askShown(t, m, h, impl.PlcRight)
	if len(got) != 9 || got[8] != (impl.GstGhost{From: 1, Count: 17, Walker: c.Walkers[8]}) {
		t.Errorf("shown are %+v", got)
	}
	if got := askShown(t, m, h, impl.PlcLeft); len(got) != 0 {
		t.Errorf("to the left are shown %+v", got)
	}
}

// What a hold shows behind a record is what it is by then, with the new Count.
func TestP37ShownBehindARecord(t *testing.T) {
	m := ghostsMap
	s := impl.StoNew(m, 1, []impl.WlkWalker{{Id: 2, At: 6, Coins: 5}, {Id: 3, At: 7}})
	h, s, _ := impl.HldOpen(m, s, 1)
	var kept []impl.GstGhost
	for _, row := range []struct {
		order impl.OrdOrder
		want  []impl.GstGhost
	}{
		{impl.OrdOrder{Who: 2, Seq: 1, Kind: impl.OrdStep, To: 1}, []impl.GstGhost{
			{From: 1, Count: 1, Walker: impl.WlkWalker{Id: 2, At: 7, Coins: 5, Seq: 1, Last: 1}},
			{From: 1, Count: 1, Walker: impl.WlkWalker{Id: 3, At: 7}}}},
		{impl.OrdOrder{Who: 2, Seq: 2, Kind: impl.OrdGive, To: 3, N: 4}, []impl.GstGhost{
			{From: 1, Count: 2, Walker: impl.WlkWalker{Id: 2, At: 7, Coins: 1, Seq: 2, Last: 1}},
			{From: 1, Count: 2, Walker: impl.WlkWalker{Id: 3, At: 7, Coins: 4}}}},
		{impl.OrdOrder{Who: 2, Seq: 3, Kind: impl.OrdStep, To: 1}, []impl.GstGhost{
			{From: 1, Count: 3, Walker: impl.WlkWalker{Id: 3, At: 7, Coins: 4}}}},
	} {
		h, s, _, _ = impl.HldWrite(m, h, s, didOf(row.order))
		got := askShown(t, m, h, impl.PlcRight)
		if !slices.Equal(got, row.want) {
			t.Errorf("behind %+v are shown %+v", row.order, got)
		}
		for _, g := range got {
			kept = askPut(t, m, kept, g)
		}
	}
	// Nobody says that the walker 2 has gone: its last ghost stays.
	if len(kept) != 2 || kept[0].Count != 2 || kept[1].Count != 3 {
		t.Errorf("kept are %+v", kept)
	}
}

func TestP37HoldsThatAreNotOkShowNothing(t *testing.T) {
	m, c, _ := fullBase(0)
	for side := -1; side <= 2; side++ {
		for why, h := range wrongHolds() {
			if got := impl.GstOf(m, h, side); len(got) != 0 {
				t.Errorf("%s: GstOf(%v, %+v, %d) is %+v", why, m, h, side, got)
			}
		}
		for _, bad := range badMaps() {
			if got := impl.GstOf(bad, impl.HldHolder{Age: 1, State: c}, side); len(got) != 0 {
				t.Errorf("GstOf(%v, %+v, %d) is %+v", bad, c, side, got)
			}
		}
	}
	if got := impl.GstOf(m, impl.HldHolder{Age: 1, State: c}, impl.PlcLeft); len(got) != 1 {
		t.Errorf("of one that is ok are shown %+v", got)
	}
}
