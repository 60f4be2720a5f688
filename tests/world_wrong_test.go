package tests

import (
	"slices"
	"strconv"
	"testing"

	"loop.example/landmarch/impl"
)

// someEvents is one thing of each Kind of which something would come in the world of the cases, and some of which nothing would.
func someEvents() []impl.WldEvent {
	list := []impl.WldEvent{
		grants(1, 0), asks(impl.OrdOrder{Who: 2, Kind: 6}), says(1), loses(0), doubles(1), ticks(1, 1), falls(0), rises(0),
		grants(-1, 0), says(4), brings(-1), brings(8), loses(99), ticks(2, 0), falls(2), {}, {Kind: 10},
	}
	for at := range 8 {
		list = append(list, brings(at))
	}
	return list
}

// askNoWorld asks that a world is not ok, and that nothing comes of it.
func askNoWorld(t *testing.T, why string, w impl.WldWorld) {
	t.Helper()
	if impl.WldOk(w) {
		t.Errorf("%s: WldOk(%+v) is true", why, w)
	}
	for _, e := range someEvents() {
		if got := impl.WldStep(w, e); !isNoWorld(got) {
			t.Errorf("%s: WldStep(%+v, %+v) is %+v", why, w, e, got)
		}
	}
	for who := range 10 {
		for seq := range 4 {
			if got := impl.WldCount(w, who, seq); got != 0 {
				t.Errorf("%s: WldCount(%+v, %d, %d) is %d", why, w, who, seq, got)
			}
		}
	}
	askNoCalm(t, why, w)
	if got := impl.OneOf(w); !isNoOne(got) {
		t.Errorf("%s: OneOf(%+v) is %+v", why, w, got)
	}
	if got := impl.DskBoard(w); len(got) != 0 {
		t.Errorf("%s: DskBoard(%+v) is %q", why, w, got)
	}
}

func TestP13MapsThatAreNotOk(t *testing.T) {
	for _, bad := range badMaps() {
		askNoWorld(t, "the map", worldWith(func(w *impl.WldWorld) { w.Map = bad }))
		askNoWorld(t, "the map alone", impl.WldWorld{Map: bad, Servers: make([]impl.SrvServer, 1)})
		askNoWorld(t, "the map, and as many as it says", impl.WldWorld{
			Map:     bad,
			Servers: make([]impl.SrvServer, 1),
			Table:   impl.ArbTable{Servers: slices.Repeat([]int{-1}, max(0, min(bad.Cells, 9))), Ages: make([]int, max(0, min(bad.Cells, 9)))},
			Stores:  []impl.StoStore{{Base: bareCell(0)}}[:max(0, min(bad.Cells, 1))],
		})
	}
	// Ok by themselves, but not the maps of the rest.
	for _, m := range []impl.PlcMap{{Cells: 2, Width: 4}, {Cells: 4, Width: 4}, {Cells: 3, Width: 3}} {
		askNoWorld(t, "another map", worldWith(func(w *impl.WldWorld) { w.Map = m }))
	}
}

func TestP13WorldsWithServersThatAreNotOk(t *testing.T) {
	for why, s := range wrongServers() {
		for i := range 2 {
			askNoWorld(t, why, worldWith(func(w *impl.WldWorld) {
				// No hold is of a later age than these.
				w.Table.Ages = []int{900, 900, 900}
				w.Servers[i] = s
			}))
		}
		askNoWorld(t, why, worldWith(func(w *impl.WldWorld) { w.Servers = append(w.Servers, s) }))
	}
	for _, servers := range []int{0, 4, 5, 100} {
		for _, s := range []impl.SrvServer{{}, impl.SrvNew()} {
			askNoWorld(t, strconv.Itoa(servers)+" servers", worldWith(netOf(0), func(w *impl.WldWorld) {
				w.Servers = slices.Repeat([]impl.SrvServer{s}, servers)
			}))
			askNoWorld(t, strconv.Itoa(servers)+" servers of a new world", turnedWorld(impl.WldNew(messagesMap, nil, 1), func(w *impl.WldWorld) {
				w.Servers = slices.Repeat([]impl.SrvServer{s}, servers)
			}))
		}
	}
}

func TestP13WorldsWithStoresThatAreNotOk(t *testing.T) {
	for why, stores := range wrongStoreLists() {
		askNoWorld(t, why, worldWith(func(w *impl.WldWorld) {
			w.Table.Ages = []int{900, 900, 900}
			w.Stores = stores
		}))
		askNoWorld(t, why+", of a new world", turnedWorld(impl.WldNew(messagesMap, nil, 2), func(w *impl.WldWorld) {
			w.Table = impl.ArbTable{Servers: []int{1, 1, 1}, Ages: []int{900, 900, 900}}
			w.Stores = stores
		}))
	}
	m, _, _ := fullBase(0)
	for why, s := range wrongStores() {
		askNoWorld(t, why, turnedWorld(impl.WldNew(m, nil, 2), func(w *impl.WldWorld) {
			w.Table = impl.ArbTable{Servers: []int{1, 1, 1}, Ages: []int{900, 900, 900}}
			w.Stores[1] = s
		}))
	}
}

func TestP13WorldsWithTablesThatAreNotOk(t *testing.T) {
	for why, table := range wrongTables() {
		askNoWorld(t, why, worldWith(func(w *impl.WldWorld) { w.Table = table }))
		askNoWorld(t, why+", of a new world", turnedWorld(impl.WldNew(messagesMap, nil, 2), func(w *impl.WldWorld) { w.Table = table }))
	}
	askNoWorld(t, "the server 2 of two", worldWith(func(w *impl.WldWorld) { w.Table.Servers[0] = 2 }))
}

func TestP13WorldsWithBooksThatAreNotOk(t *testing.T) {
	for why, b := range wrongBooks() {
		askNoWorld(t, why, worldWith(func(w *impl.WldWorld) { w.Book = b }))
	}
}

func TestP13WorldsWithMessagesThatAreNotOk(t *testing.T) {
	for why, x := range wrongMessages() {
		for _, at := range []int{0, 4, 8} {
			askNoWorld(t, why, worldWith(func(w *impl.WldWorld) { w.Net = slices.Insert(w.Net, at, x) }))
		}
	}
	askNoWorld(t, "for the server 2 of two", worldWith(sends(askOf(2, 1, impl.OrdOrder{Who: 1, Seq: 1, Kind: 6}))))
	askNoWorld(t, "one past the most", worldWith(netOf(41)))
}

func TestP13WorldsWithNotesThatAreNotOk(t *testing.T) {
	add := func(why string, n impl.WldNote) {
		t.Helper()
		for _, at := range []int{0, 2, 3} {
			askNoWorld(t, why, worldWith(func(w *impl.WldWorld) { w.Notes = slices.Insert(w.Notes, at, n) }))
		}
	}
	add("nothing", impl.WldNote{})
	for _, who := range append([]int{-1, 0, 10}, farNumbers...) {
		add("Who "+strconv.Itoa(who), impl.WldNote{Who: who, Seq: 1, Code: 1})
	}
	for _, seq := range append([]int{-1, 0, 901}, farNumbers...) {
		add("Seq "+strconv.Itoa(seq), impl.WldNote{Who: 1, Seq: seq, Code: 1})
	}
	for _, code := range append([]int{-1, 0, 10}, farNumbers...) {
		add("Code "+strconv.Itoa(code), impl.WldNote{Who: 1, Seq: 1, Code: code})
	}
	askNoWorld(t, "one past the most", worldWith(notesOf(151)))
}

// In each cell a store, a hold and a grant on its way of the table's age are ok, and of one later they are not, nor of any later one.
func TestP13NothingIsOfALaterAgeThanTheTable(t *testing.T) {
	for cell := range 3 {
		for _, age := range []int{0, 1, 2, 450, 899, 900} {
			given := turnedWorld(impl.WldNew(messagesMap, nil, 2), func(w *impl.WldWorld) {
				w.Table = impl.ArbTable{Servers: []int{0, 0, 0}, Ages: []int{900, 900, 900}}
				w.Table.Ages[cell] = age
				if age == 0 {
					w.Table.Servers[cell] = -1
				}
			})
			for _, of := range []int{age - 1, age, age + 1, 900} {
				turns := map[string]worldTurn{
					"a store": func(w *impl.WldWorld) { w.Stores[cell].Age = of },
					"a hold": func(w *impl.WldWorld) {
						w.Servers[1].Holds = []impl.HldHolder{{Age: of, State: bareCell(cell)}}
					},
					"a grant": func(w *impl.WldWorld) { w.Net = []impl.MsgMsg{grantOf(1, cell, of)} },
				}
				for why, turn := range turns {
					want := of >= 1 && of <= age || of == 0 && why == "a store"
					if got := askWorld(t, turnedWorld(given, turn)); got != want {
						t.Errorf("%s of the cell %d of the age %d, where the table has %d: WldOk is %v", why, cell, of, age, got)
					}
				}
			}
		}
	}
}
