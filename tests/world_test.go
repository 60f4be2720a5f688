package tests

import (
	"math/rand"
	"slices"
	"strconv"
	"testing"

	"loop.example/landmarch/impl"
)

func TestP13NewWorlds(t *testing.T) {
	for _, m := range okMaps() {
		lists := okWalkers(m, 341)
		for i := 0; i < len(lists); i += 1 + i%37 {
			for _, servers := range numbersAround(1, 3) {
				got := impl.WldNew(m, lists[i], servers)
				if servers < 1 || servers > 3 {
					if !isNoWorld(got) {
						t.Fatalf("WldNew(%v, %v, %d) is %+v", m, lists[i], servers, got)
					}
					continue
				}
				if want := newWorldPlainly(m, lists[i], servers); !sameWorld(got, want) {
					t.Fatalf("WldNew(%v, %v, %d) is not so: %s", m, lists[i], servers, worldsApart(got, want))
				}
				if !impl.WldOk(got) || len(got.Net) != 0 || len(got.Notes) != 0 {
					t.Fatalf("WldNew(%v, %v, %d) is %+v", m, lists[i], servers, got)
				}
			}
		}
	}
}

func TestP13NoNewWorlds(t *testing.T) {
	good := []impl.WlkWalker{{Id: 1, At: 0, Coins: 3}, {Id: 4, At: 7, Seq: 2, Last: 1}}
	ask := func(why string, m impl.PlcMap, list []impl.WlkWalker, servers int) {
		t.Helper()
		if got := impl.WldNew(m, list, servers); !isNoWorld(got) {
			t.Errorf("%s: WldNew(%v, %v, %d) is %+v", why, m, list, servers, got)
		}
	}
	for _, bad := range badMaps() {
		for servers := 1; servers <= 3; servers++ {
			ask("the map", bad, good, servers)
			ask("the map, nobody on it", bad, nil, servers)
		}
	}
	if impl.WlkListOk(messagesMap, good) && isNoWorld(impl.WldNew(messagesMap, good, 2)) {
		t.Errorf("of %v there is no world", good)
	}
	for _, bound := range walkerBounds {
		for _, n := range append([]int{bound.low - 1, bound.high + 1}, farNumbers...) {
			for i := range good {
				list := slices.Clone(good)
				bound.set(&list[i], n)
				ask(bound.name+" "+strconv.Itoa(n), messagesMap, list, 2)
			}
		}
	}
	for _, at := range append([]int{-1, 12}, farNumbers...) {
		ask("At "+strconv.Itoa(at), messagesMap, []impl.WlkWalker{good[0], {Id: 4, At: at}}, 2)
	}
	ask("they fall", messagesMap, []impl.WlkWalker{good[1], good[0]}, 2)
	ask("one twice", messagesMap, []impl.WlkWalker{good[0], good[0]}, 2)
	for _, list := range anyWalkers(342, 400) {
		got := impl.WldNew(messagesMap, list, 2)
		if ok := impl.WlkListOk(messagesMap, list); isNoWorld(got) == ok {
			t.Errorf("WldNew of %v is %+v", list, got)
		}
	}
}

// askWorld asks that a world is ok as the words say, and that nothing comes of it if it is not.
func askWorld(t *testing.T, w impl.WldWorld) bool {
	t.Helper()
	got := impl.WldOk(w)
	if got != worldOkPlainly(w) {
		t.Fatalf("WldOk(%+v) is %v", w, got)
	}
	if !got {
		askNoWorld(t, "not ok", w)
	}
	return got
}

func TestP13WorldsThatAreOk(t *testing.T) {
	count := map[bool]int{}
	eachWorld(t, 343, 60, 4, func(r *rand.Rand, w impl.WldWorld) {
		if !askWorld(t, w) {
			t.Fatalf("WldOk(%+v) is false", w)
		}
		for range 8 {
			count[askWorld(t, turnedWorld(w, anyWorldTurn(r, w)))]++
		}
	})
	if count[true] < 100 || count[false] < 500 {
		t.Errorf("so many were ok: %v", count)
	}
}

// anyWorldTurn is a small thing that turns in a world that is ok; it may be ok behind it, or just not.
func anyWorldTurn(r *rand.Rand, w impl.WldWorld) worldTurn {
	cell, server := r.Intn(w.Map.Cells), r.Intn(len(w.Servers))
	more := r.Intn(3) - 1
	turns := []worldTurn{
		func(w *impl.WldWorld) { w.Table.Ages[cell] += more },
		func(w *impl.WldWorld) { w.Table.Servers[cell] += more },
		func(w *impl.WldWorld) { w.Stores[cell].Age = w.Table.Ages[cell] + more },
		func(w *impl.WldWorld) { w.Stores[cell].Base.Cell += more },
		func(w *impl.WldWorld) { w.Net = append(w.Net, grantOf(server, cell, w.Table.Ages[cell]+more)) },
		func(w *impl.WldWorld) { w.Net = append(w.Net, grantOf(server+more, cell, w.Table.Ages[cell])) },
		func(w *impl.WldWorld) { w.Servers[server].Up = !w.Servers[server].Up },
		func(w *impl.WldWorld) { w.Servers = append(w.Servers, impl.SrvServer{}) },
		func(w *impl.WldWorld) { w.Servers = slices.Delete(w.Servers, server, server+1) },
		func(w *impl.WldWorld) { w.Stores = slices.Delete(w.Stores, cell, cell+1) },
		func(w *impl.WldWorld) { w.Map.Cells += more },
		func(w *impl.WldWorld) { w.Map.Width += more },
		func(w *impl.WldWorld) {
			n := impl.WldNote{Who: oneOf(r, 0, 1, 9, 10), Seq: oneOf(r, 0, 1, 900, 901), Code: oneOf(r, 0, 1, 9, 10)}
			w.Notes = append(w.Notes, n)
		},
	}
	if rows := len(w.Book.Rows); rows > 0 {
		turns = append(turns, func(w *impl.WldWorld) { w.Book.Rows[r.Intn(rows)].Cell = oneOf(r, -1, 0, 2, 3, 4) })
	}
	if holds := len(w.Servers[server].Holds); holds > 0 {
		turns = append(turns, func(w *impl.WldWorld) {
			h := &w.Servers[server].Holds[r.Intn(holds)]
			h.Age = w.Table.Ages[h.State.Cell] + more
		})
	}
	return turns[r.Intn(len(turns))]
}

func TestP13WorldsAtTheEndsOfTheirBounds(t *testing.T) {
	rows := []struct {
		why string
		w   impl.WldWorld
		ok  bool
	}{
		{"as it is", standingWorld(), true},
		{"nothing", impl.WldWorld{}, false},
		{"no messages", worldWith(netOf(0)), true},
		{"39 messages", worldWith(netOf(39)), true},
		{"40 messages", worldWith(netOf(40)), true},
		{"41 messages", worldWith(netOf(41)), false},
		{"80 messages", worldWith(netOf(80)), false},
		{"no notes", worldWith(notesOf(0)), true},
		{"149 notes", worldWith(notesOf(149)), true},
		{"150 notes", worldWith(notesOf(150)), true},
		{"151 notes", worldWith(notesOf(151)), false},
		{"300 notes", worldWith(notesOf(300)), false},
		{"no rows", worldWith(func(w *impl.WldWorld) { w.Book.Rows = nil }), true},
		{"all down", worldWith(serverDown(0), serverDown(1)), true},
		{"three servers", worldWith(func(w *impl.WldWorld) { w.Servers = append(w.Servers, impl.SrvNew()) }), true},
		{"three servers, one down", worldWith(func(w *impl.WldWorld) { w.Servers = append(w.Servers, impl.SrvServer{}) }), true},
		{"four servers", worldWith(func(w *impl.WldWorld) { w.Servers = append(w.Servers, impl.SrvNew(), impl.SrvNew()) }), false},
		{"one server, where two have something", worldWith(func(w *impl.WldWorld) { w.Servers = w.Servers[:1] }), false},
		{"a store of the table's age", worldWith(func(w *impl.WldWorld) { w.Stores[2].Age = 3 }), true},
		{"a store of a later age", worldWith(func(w *impl.WldWorld) { w.Stores[2].Age = 4 }), false},
		{"a store of the age 0", worldWith(func(w *impl.WldWorld) { w.Stores[2].Age = 0 }), true},
		{"a hold of the table's age", worldWith(func(w *impl.WldWorld) { w.Servers[1].Holds[1].Age = 3 }), true},
		{"a hold of a later age", worldWith(func(w *impl.WldWorld) { w.Servers[1].Holds[1].Age = 4 }), false},
		{"another hold of a later age", worldWith(func(w *impl.WldWorld) { w.Servers[0].Holds[0].Age = 2 }), false},
		{"a hold of the store's later age", worldWith(func(w *impl.WldWorld) { w.Servers[0].Holds[1].Age = 5 }), true},
		{"a grant of a later age", worldWith(sends(grantOf(0, 2, 4))), false},
		{"a grant of the table's age to another one", worldWith(sends(grantOf(1, 2, 3))), true},
		{"a grant of an earlier age", worldWith(sends(grantOf(1, 2, 1))), true},
		{"a number that is no age", worldWith(sends(gotOf(1, 2, 0, 5000))), true},
		{"told with a code past the ages", worldWith(sends(toldOf(0, impl.OrdOrder{Who: 1, Seq: 1, Kind: 6}, 9))), true},
	}
	for _, row := range rows {
		if got := askWorld(t, row.w); got != row.ok {
			t.Errorf("%s: WldOk is %v", row.why, got)
		}
	}
	for servers := 0; servers <= 5; servers++ {
		w := impl.WldNew(messagesMap, nil, 1)
		w.Servers = make([]impl.SrvServer, servers)
		if got := askWorld(t, w); got != (servers >= 1 && servers <= 3) {
			t.Errorf("with %d servers that have nothing WldOk is %v", servers, got)
		}
	}
}

func TestP13NotesAtTheEndsOfTheirBounds(t *testing.T) {
	ask := func(n impl.WldNote, want bool) {
		t.Helper()
		for _, at := range []int{0, 1, 3} {
			w := worldWith(func(w *impl.WldWorld) { w.Notes = slices.Insert(w.Notes, at, n) })
			if got := askWorld(t, w); got != want {
				t.Errorf("with the note %+v WldOk is %v", n, got)
			}
		}
		w := worldWith(notesOf(150), func(w *impl.WldWorld) { w.Notes[149] = n })
		if got := askWorld(t, w); got != want {
			t.Errorf("with %+v as the last one of 150 notes WldOk is %v", n, got)
		}
	}
	for _, who := range numbersAround(1, 9) {
		ask(impl.WldNote{Who: who, Seq: 1, Code: 1}, who >= 1 && who <= 9)
	}
	for _, seq := range append([]int{-1, 0, 1, 2, 899, 900, 901, 902}, farNumbers...) {
		ask(impl.WldNote{Who: 1, Seq: seq, Code: 1}, seq >= 1 && seq <= 900)
	}
	for _, code := range numbersAround(1, 9) {
		ask(impl.WldNote{Who: 9, Seq: 900, Code: code}, code >= 1 && code <= 9)
	}
}

func TestP4OrdersAreCountedOverAllLogs(t *testing.T) {
	seen := map[int]int{}
	ask := func(w impl.WldWorld) {
		t.Helper()
		for who := -1; who <= 11; who++ {
			for seq := -1; seq <= 8; seq++ {
				got, want := impl.WldCount(w, who, seq), worldCountPlainly(w, who, seq)
				if got != want {
					t.Fatalf("WldCount(%+v, %d, %d) is %d, not %d", w, who, seq, got, want)
				}
				seen[got]++
			}
		}
	}
	eachWorld(t, 344, 8, 12, func(_ *rand.Rand, w impl.WldWorld) { ask(w) })
	// The same order in each log, as no world from WldNew on has it.
	w := impl.WldNew(messagesMap, nil, 2)
	for cell := range w.Stores {
		w.Stores[cell].Base.Walkers = []impl.WlkWalker{{Id: 4, At: 4 * cell}, {Id: 7, At: 4 * cell}}
		for seq := 1; seq <= 2+cell; seq++ {
			w.Stores[cell].Recs = append(w.Stores[cell].Recs, restOf(4, seq), restOf(7, 2*seq))
		}
	}
	ask(w)
	for seq, want := range []int{0, 3, 3, 2, 1, 0} {
		if got := impl.WldCount(w, 4, seq); got != want {
			t.Errorf("the order %d was done %d times", seq, got)
		}
	}
	for count := range 4 {
		if seen[count] == 0 {
			t.Errorf("so many orders were done so many times: %v", seen)
		}
	}
	for _, n := range farNumbers {
		if impl.WldCount(w, n, 1) != 0 || impl.WldCount(w, 4, n) != 0 {
			t.Errorf("orders of %d are counted", n)
		}
	}
}
