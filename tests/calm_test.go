package tests

import (
	"math/rand"
	"slices"
	"testing"

	"loop.example/landmarch/impl"
)

// calmMaps are of 2, 3 and 4 cells, so that with 1 to 3 servers there are fewer of these than cells, as many, and more.
var calmMaps = []impl.PlcMap{{Cells: 2, Width: 2}, {Cells: 3, Width: 2}, {Cells: 4, Width: 3}, {Cells: 3, Width: 8}}

// eachRun is worlds from WldNew on behind so many events, for each map, beginning and number of servers.
func eachRun(t *testing.T, seed int64, counts []int, each func(first impl.WldWorld, events []impl.WldEvent, w impl.WldWorld)) {
	t.Helper()
	r := rand.New(rand.NewSource(seed))
	for _, m := range calmMaps {
		for _, list := range beginnings(r, m) {
			for servers := 1; servers <= 3; servers++ {
				for _, count := range counts {
					trouble := oneOf(r, 4, 15, 40, 80)
					first := impl.WldNew(m, list, servers)
					w, events := ranFor(t, first, count, func(w impl.WldWorld) impl.WldEvent { return someEvent(r, w, trouble) })
					each(first, events, w)
				}
			}
		}
	}
}

func TestP7ToP10CalmsBehindRuns(t *testing.T) {
	tally := map[string]int{}
	counts := []int{0, 1, 2, 3, 5, 8, 12, 20, 40, 80, 120, 160, 190, 200, 200, 200, 200, 200, 200}
	eachRun(t, 371, counts, func(_ impl.WldWorld, _ []impl.WldEvent, w impl.WldWorld) {
		countWorld(w, tally)
		askRestful(t, w)
	})
	for _, name := range []string{
		"a cell that nobody was given", "a cell that is given and not held", "a cell that is held", "all three in one world",
		"a cell that is held by another than its number says", "an order that is not done",
		"an order that is done and not told", "a server that is down", "a log of several records",
		"a walker on its way", "coins on their way", "a message", "a grant", "at rest",
	} {
		if tally[name] < 20 {
			t.Errorf("too few of %q: %v", name, tally)
		}
	}
}

// Where no cell is told of parcels pile up, more of them than go over a border in a few rounds.
func TestP7ToP10CalmsWhereParcelsPileUp(t *testing.T) {
	tally := map[string]int{}
	r := rand.New(rand.NewSource(372))
	for _, m := range calmMaps {
		for range 30 {
			side := r.Intn(2)
			var list []impl.WlkWalker
			for id := range oneOf(r, 1, 1, 2, 9) {
				list = append(list, impl.WlkWalker{Id: id + 1, At: m.Width*(1+r.Intn(m.Cells-1)) - side, Coins: 99})
			}
			first := impl.WldNew(m, list, 1+r.Intn(3))
			w, _ := ranFor(t, first, 200, func(w impl.WldWorld) impl.WldEvent { return pilingEvent(r, w, side) })
			countWorld(w, tally)
			askRestful(t, w)
		}
	}
	if tally["more than twenty parcels to a side"] < 20 || tally["a walker on its way"] < 20 {
		t.Errorf("too few parcels: %v", tally)
	}
}

// With as many messages on their way as there may be.
func TestP7ToP11CalmsOfAllMessages(t *testing.T) {
	tally := map[string]int{}
	r := rand.New(rand.NewSource(378))
	eachRun(t, 379, []int{3, 60, 110}, func(_ impl.WldWorld, _ []impl.WldEvent, w impl.WldWorld) {
		w, _ = ranFor(t, w, 90, func(w impl.WldWorld) impl.WldEvent { return fillingEvent(r, w) })
		countWorld(w, tally)
		askRestful(t, w)
		askCalms(t, w, 1, 2)
	})
	for _, name := range []string{"as many messages as there may be", "an order that is not done", "an order that is done and not told", "a grant"} {
		if tally[name] < 20 {
			t.Errorf("too few of %q: %v", name, tally)
		}
	}
}

// By the words, round for round.
func TestP11CalmsBehindRuns(t *testing.T) {
	eachRun(t, 373, []int{0, 3, 30, 200}, func(_ impl.WldWorld, _ []impl.WldEvent, w impl.WldWorld) {
		askWhetherAtRest(t, w)
		askCalms(t, w, -1, 0, 1, 2, 3, 20)
	})
}

// By the words, in worlds to which WldNew need not lead.
func TestP11CalmsOfAnyWorld(t *testing.T) {
	rested, held := 0, 0
	eachWorld(t, 374, 40, 6, func(_ *rand.Rand, w impl.WldWorld) {
		askWhetherAtRest(t, w)
		calm := askCalms(t, w, -1, 0, 1, 2, 3, 5)
		if restPlainly(calm) {
			rested++
		}
		for cell := range w.Map.Cells {
			if heldPlainly(w, cell) {
				held++
			}
		}
	})
	if rested < 5 || held < 20 {
		t.Errorf("%d worlds come to rest, %d cells are held", rested, held)
	}
}

// Runs of some and of all events, cut into two at every place.
func TestP12RunsInTwo(t *testing.T) {
	eachRun(t, 375, []int{0, 1, 40}, func(first impl.WldWorld, events []impl.WldEvent, w impl.WldWorld) {
		if want := runPlainly(first, events); !sameWorld(w, want) {
			t.Fatalf("WldRun of %+v is not so: %s", events, worldsApart(w, want))
		}
		for cut := range len(events) + 1 {
			if got := impl.WldRun(impl.WldRun(first, events[:cut]), events[cut:]); !sameWorld(got, w) {
				t.Fatalf("%+v, cut behind %d, is not so: %s", events, cut, worldsApart(got, w))
			}
		}
	})
}

// In worlds to which WldNew need not lead, events of which something comes and others.
func TestP12RunsInAnyWorld(t *testing.T) {
	eachWorld(t, 376, 6, 5, func(r *rand.Rand, w impl.WldWorld) {
		around := eventsAround(r, w)
		for _, count := range []int{0, 1, 2, 30} {
			var events []impl.WldEvent
			for range count {
				events = append(events, around[r.Intn(len(around))])
			}
			got, want := impl.WldRun(w, events), runPlainly(w, events)
			if !sameWorld(got, want) {
				t.Fatalf("WldRun(%+v, %+v) is not so: %s", w, events, worldsApart(got, want))
			}
			cut := r.Intn(count + 1)
			if again := impl.WldRun(impl.WldRun(w, events[:cut]), events[cut:]); !sameWorld(again, want) {
				t.Fatalf("%+v, cut behind %d, is not so: %s", events, cut, worldsApart(again, want))
			}
		}
	})
}

// No events, as many as there may be, and one more.
func TestP12RunsAtTheirMost(t *testing.T) {
	r := rand.New(rand.NewSource(377))
	first := impl.WldNew(impl.PlcMap{Cells: 3, Width: 2}, []impl.WlkWalker{{Id: 1, At: 1, Coins: 50}, {Id: 2, At: 4, Coins: 50}}, 2)
	w, events := ranFor(t, first, 400, func(w impl.WldWorld) impl.WldEvent { return someEvent(r, w, 15) })
	if !sameWorld(w, runPlainly(first, events)) || sameWorld(w, impl.WldRun(first, events[:399])) {
		t.Errorf("behind 400 events there is %+v", w)
	}
	for _, cut := range []int{0, 1, 200, 399, 400} {
		if got := impl.WldRun(impl.WldRun(first, events[:cut]), events[cut:]); !sameWorld(got, w) {
			t.Errorf("400 events, cut behind %d, are not so: %s", cut, worldsApart(got, w))
		}
	}
	for _, none := range [][]impl.WldEvent{nil, {}} {
		for _, w := range []impl.WldWorld{first, w, standingWorld()} {
			if got := impl.WldRun(w, none); !sameWorld(got, w) {
				t.Errorf("behind no event it is not as it was: %s", worldsApart(got, w))
			}
		}
	}
	// Events of which nothing comes count as well.
	for _, more := range []impl.WldEvent{{}, grants(0, 0), brings(0), rises(0)} {
		for _, list := range [][]impl.WldEvent{append(slices.Clone(events), more), slices.Repeat([]impl.WldEvent{more}, 401), slices.Repeat([]impl.WldEvent{more}, 5000)} {
			if got := impl.WldRun(first, list); !isNoWorld(got) {
				t.Errorf("behind %d events there is %+v", len(list), got)
			}
		}
		if got, want := impl.WldRun(w, []impl.WldEvent{more}), stepPlainly(w, more); !sameWorld(got, want) {
			t.Errorf("behind 400 events and one in a run of its own it is not so: %s", worldsApart(got, want))
		}
		if got := impl.WldRun(first, slices.Repeat([]impl.WldEvent{more}, 400)); !sameWorld(got, runPlainly(first, slices.Repeat([]impl.WldEvent{more}, 400))) {
			t.Errorf("behind %+v 400 times there is %+v", more, got)
		}
	}
}
