package tests

import (
	"slices"
	"testing"

	"loop.example/landmarch/impl"
)

// askNoCalm asks that of a world that is not ok there is no run, no calm, no cell that is held, and no rest.
func askNoCalm(t *testing.T, why string, w impl.WldWorld) {
	t.Helper()
	for _, events := range [][]impl.WldEvent{nil, {{}}, {falls(0), rises(0)}, someEvents(), slices.Repeat([]impl.WldEvent{brings(0)}, 400), make([]impl.WldEvent, 401)} {
		if got := impl.WldRun(w, events); !isNoWorld(got) {
			t.Errorf("%s: WldRun(%+v) of %d events is %+v", why, w, len(events), got)
		}
	}
	for _, rounds := range []int{-1, 0, 1, 20, 60, 61} {
		if got := impl.WldCalm(w, rounds); !isNoWorld(got) {
			t.Errorf("%s: WldCalm(%+v, %d) is %+v", why, w, rounds, got)
		}
	}
	for cell := -1; cell <= 4; cell++ {
		if impl.WldHeld(w, cell) {
			t.Errorf("%s: WldHeld(%+v, %d) is true", why, w, cell)
		}
	}
	if impl.WldRest(w) {
		t.Errorf("%s: WldRest(%+v) is true", why, w)
	}
}

// notQuiteResting is, by what is wrong, what turns in a world at rest, so that it would be at rest if it were ok: for each clause of chapter 13 by itself. (With a message it would not be.)
func notQuiteResting() map[string]worldTurn {
	wrong := map[string]worldTurn{
		"too wide a map":             func(w *impl.WldWorld) { w.Map.Width = 9 },
		"too narrow a map":           func(w *impl.WldWorld) { w.Map.Width = 1 },
		"a wider map":                func(w *impl.WldWorld) { w.Map.Width = 5 },
		"fewer cells":                func(w *impl.WldWorld) { w.Map.Cells = 2 },
		"one cell":                   func(w *impl.WldWorld) { w.Map.Cells = 1 },
		"no cells":                   func(w *impl.WldWorld) { w.Map.Cells = 0 },
		"four servers":               func(w *impl.WldWorld) { w.Servers = append(w.Servers, impl.SrvNew(), impl.SrvNew()) },
		"who is down, with ghosts":   func(w *impl.WldWorld) { w.Servers = append(w.Servers, impl.SrvServer{Ghosts: w.Servers[0].Ghosts}) },
		"who is down, with holds":    func(w *impl.WldWorld) { w.Servers[0].Up = false },
		"holds that do not rise":     func(w *impl.WldWorld) { slices.Reverse(w.Servers[0].Holds) },
		"a hold of a later age":      func(w *impl.WldWorld) { w.Servers[0].Holds[1].Age = 6 },
		"a hold of no age":           func(w *impl.WldWorld) { w.Servers[0].Holds[1].Age = 0 },
		"too many records of a hold": func(w *impl.WldWorld) { w.Servers[1].Holds[0].Count = 251 },
		"a state that is not ok":     func(w *impl.WldWorld) { w.Servers[1].Holds[0].State.Ground = 901 },
		"a ghost that is not ok":     func(w *impl.WldWorld) { w.Servers[0].Ghosts[0].Walker.Id = 10 },
		"a ghost too many": func(w *impl.WldWorld) {
			w.Servers[0].Ghosts = slices.Repeat(w.Servers[0].Ghosts, 21)
		},
		"a table that is too long":  func(w *impl.WldWorld) { w.Table.Servers = append(w.Table.Servers, -1) },
		"ages that are too long":    func(w *impl.WldWorld) { w.Table.Ages = append(w.Table.Ages, 0) },
		"a row that is not ok":      func(w *impl.WldWorld) { w.Book.Rows[2].Who = 10 },
		"a row of no cell":          func(w *impl.WldWorld) { w.Book.Rows[2].Cell = 3 },
		"a row with an order":       func(w *impl.WldWorld) { w.Book.Rows[1].Order.Who = 2 },
		"rows that do not rise":     func(w *impl.WldWorld) { slices.Reverse(w.Book.Rows) },
		"a note too many":           notesOf(151),
		"a note of nobody":          func(w *impl.WldWorld) { w.Notes[1].Who = 0 },
		"a note of no order":        func(w *impl.WldWorld) { w.Notes[1].Seq = 901 },
		"a note of no code":         func(w *impl.WldWorld) { w.Notes[0].Code = 0 },
		"a store too many":          func(w *impl.WldWorld) { w.Stores = append(w.Stores, impl.StoStore{Base: bareCell(3)}) },
		"a store of another cell":   func(w *impl.WldWorld) { w.Stores[0].Base.Cell = 1 },
		"a store too few":           func(w *impl.WldWorld) { w.Stores = w.Stores[:2] },
		"a store of nothing":        func(w *impl.WldWorld) { w.Stores[1] = impl.StoStore{} },
		"a record that is not ok":   func(w *impl.WldWorld) { w.Stores[0].Recs[0].Order.Kind = 7 },
		"a record that does not go": func(w *impl.WldWorld) { w.Stores[0].Recs = append(w.Stores[0].Recs, w.Stores[0].Recs...) },
		"a record too many": func(w *impl.WldWorld) {
			w.Stores[0].Recs = nil
			for seq := 3; seq <= 253; seq++ {
				w.Stores[0].Recs = append(w.Stores[0].Recs, restOf(1, seq))
			}
		},
		"an age past the last one": func(w *impl.WldWorld) {
			lastAges(w)
			w.Table.Ages[1], w.Servers[0].Holds[0].Age = 901, 901
		},
		"a map of less than nothing": func(w *impl.WldWorld) { w.Map = impl.PlcMap{Cells: -1, Width: -1} },
	}
	for cell := range 3 {
		wrong["a store of a later age "+string(rune('0'+cell))] = func(w *impl.WldWorld) { w.Stores[cell].Age = w.Table.Ages[cell] + 1 }
	}
	return wrong
}

func TestP7P10P11P12NotQuiteResting(t *testing.T) {
	if w := restingWorld(); !worldOkPlainly(w) || !impl.WldRest(w) {
		t.Fatalf("the test's own %+v is not at rest", w)
	}
	for why, turn := range notQuiteResting() {
		w := turnedWorld(restingWorld(), turn)
		if worldOkPlainly(w) {
			t.Fatalf("%s: the test's own %+v is ok", why, w)
		}
		askNoWorld(t, why, w)
	}
	for why, w := range map[string]impl.WldWorld{
		"nothing":          {},
		"a map alone":      {Map: messagesMap},
		"no servers":       turnedWorld(impl.WldNew(messagesMap, nil, 1), func(w *impl.WldWorld) { w.Servers = nil }),
		"a message more":   worldWith(netOf(41)),
		"messages of none": turnedWorld(restingWorld(), sends(impl.MsgMsg{})),
	} {
		askNoWorld(t, why, w)
	}
}
