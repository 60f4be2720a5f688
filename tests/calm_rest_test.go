package tests

import (
	"slices"
	"testing"

	"loop.example/landmarch/impl"
)

// restingWorld is a world at rest: three cells, two servers, of which the server 0 has the cell 1, and held the cell 2 before; parcels have gone to the left and to the right, and have come.
func restingWorld() impl.WldWorld {
	list := []impl.WlkWalker{{Id: 1, At: 3, Coins: 9, Seq: 2, Last: 1}, {Id: 2, At: 6, Coins: 2}, {Id: 3, At: 8, Coins: 4}}
	w := newWorldPlainly(messagesMap, list, 2)
	w.Table = impl.ArbTable{Servers: []int{1, 0, 1}, Ages: []int{2, 7, 5}}
	rest, throw := impl.OrdOrder{Who: 1, Seq: 3, Kind: impl.OrdRest}, impl.OrdOrder{Who: 3, Seq: 1, Kind: impl.OrdThrow, To: impl.PlcLeft, N: 3}
	w.Stores[0].Recs = []impl.LogRec{didOf(rest)}
	w.Stores[1].Base.Outs[1], w.Stores[1].Base.Next[1] = []impl.PclParcel{{N: 0, Kind: impl.PclCoins, Coins: 5}}, 1
	w.Stores[1].Recs = []impl.LogRec{cameFrom(1, impl.PclParcel{N: 0, Kind: impl.PclCoins, Coins: 3}), ackOf(1, 1)}
	w.Stores[2].Recs = []impl.LogRec{didOf(throw), cameFrom(0, impl.PclParcel{N: 0, Kind: impl.PclCoins, Coins: 5}), ackOf(0, 1)}
	w.Book.Rows[0].Seq, w.Book.Rows[2].Seq, w.Book.Rows[2].Code = 3, 1, 1
	w.Notes = []impl.WldNote{{Who: 1, Seq: 3, Code: 1}, {Who: 3, Seq: 1, Code: 1}}
	hold := func(cell, count, age int) impl.HldHolder {
		state, _ := foldPlainly(w.Map, w.Stores[cell].Base, w.Stores[cell].Recs[:count])
		return impl.HldHolder{Age: age, Count: count, State: state}
	}
	for cell, s := range w.Table.Servers {
		w.Stores[cell].Age = w.Table.Ages[cell]
		w.Servers[s].Holds = append(w.Servers[s].Holds, hold(cell, len(w.Stores[cell].Recs), w.Table.Ages[cell]))
	}
	w.Servers[0].Holds = append(w.Servers[0].Holds, hold(2, 1, 4))
	w.Servers[0].Ghosts = []impl.GstGhost{{From: 0, Walker: list[0]}}
	return w
}

// restCase is what turns in a world at rest.
type restCase struct {
	why  string
	turn worldTurn
}

// askRestCases asks whether a world at rest is so with something turned in it.
func askRestCases(t *testing.T, want bool, cases []restCase) {
	t.Helper()
	for _, c := range cases {
		w := turnedWorld(restingWorld(), c.turn)
		if !worldOkPlainly(w) {
			t.Fatalf("%s: the test's own %+v is not ok", c.why, w)
		}
		if got := askWhetherAtRest(t, w); got != want {
			t.Errorf("%s: WldRest(%+v) is %v", c.why, w, got)
		}
	}
}

func TestP7ThisIsRest(t *testing.T) {
	outs := func(w *impl.WldWorld, hold *impl.HldHolder) {
		hold.State.Outs[1] = append(hold.State.Outs[1], impl.PclParcel{N: hold.State.Next[1], Kind: impl.PclCoins, Coins: 1})
		hold.State.Next[1]++
	}
	askRestCases(t, true, []restCase{
		{"as it is", func(*impl.WldWorld) {}},
		{"no notes", func(w *impl.WldWorld) { w.Notes = nil }},
		{"as many notes as may be", notesOf(150)},
		{"no ghosts", func(w *impl.WldWorld) { w.Servers[0].Ghosts = nil }},
		{"no rows", func(w *impl.WldWorld) { w.Book.Rows = nil }},
		{"rows of nobody", func(w *impl.WldWorld) { w.Book.Rows = append(w.Book.Rows, impl.GwyRow{Who: 9, Cell: 2}) }},
		{"rows that ask in another cell", func(w *impl.WldWorld) { w.Book.Rows[0].Cell = 2 }},
		{"a server more, that is up", func(w *impl.WldWorld) { w.Servers = append(w.Servers, impl.SrvNew()) }},
		{"a server more, that is down", func(w *impl.WldWorld) { w.Servers = append(w.Servers, impl.SrvServer{}) }},
		{"no hold of before", func(w *impl.WldWorld) { w.Servers[0].Holds = w.Servers[0].Holds[:1] }},
		{"stores of an earlier age", func(w *impl.WldWorld) { w.Stores[0].Age, w.Stores[1].Age, w.Stores[2].Age = 0, 0, 0 }},
		{"another hold of the same age", func(w *impl.WldWorld) { w.Servers[0].Holds[1].Age = 5 }},
		{"the last ages", lastAges},
		// Whether something is on its way is asked of the stores.
		{"a hold that takes something to be on its way", func(w *impl.WldWorld) { outs(w, &w.Servers[0].Holds[0]) }},
		{"a hold that has read nothing", func(w *impl.WldWorld) {
			w.Servers[1].Holds[1].Count, w.Servers[1].Holds[1].State = 0, cloneCell(w.Stores[2].Base)
		}},
		{"coins on the ground", func(w *impl.WldWorld) { w.Stores[1].Base.Ground = 800 }},
	})
}

func TestP7OneMessageIsNoRest(t *testing.T) {
	o := impl.OrdOrder{Who: 2, Seq: 1, Kind: impl.OrdRest}
	var cases []restCase
	for _, x := range []impl.MsgMsg{
		grantOf(0, 2, 5), grantOf(1, 2, 1), askOf(0, 1, o), toldOf(1, o, 1), awayOf(1, o),
		parcelOf(0, 1, 0, impl.PclParcel{Kind: impl.PclCoins, Coins: 1}), gotOf(0, 1, 0, 1),
		showOf(0, 1, 0, impl.GstGhost{From: 0, Walker: impl.WlkWalker{Id: 1, At: 3}}),
	} {
		cases = append(cases, restCase{"a message", sends(x)})
	}
	askRestCases(t, false, cases)
}

func TestP7OneCellThatIsNotHeldIsNoRest(t *testing.T) {
	// Nobody was ever given the cell.
	nobody := func(cell int) worldTurn {
		return func(w *impl.WldWorld) {
			w.Table.Servers[cell], w.Table.Ages[cell], w.Stores[cell].Age = -1, 0, 0
			for i, s := range w.Servers {
				w.Servers[i].Holds = slices.DeleteFunc(s.Holds, func(h impl.HldHolder) bool { return h.State.Cell == cell })
			}
		}
	}
	var cases []restCase
	for cell, at := range [][2]int{{1, 0}, {0, 0}, {1, 1}} {
		server, place := at[0], at[1]
		cases = append(cases,
			restCase{"nobody has it", nobody(cell)},
			restCase{"a later age", func(w *impl.WldWorld) { w.Table.Ages[cell]++ }},
			restCase{"a later age, of the store as well", func(w *impl.WldWorld) { w.Table.Ages[cell]++; w.Stores[cell].Age++ }},
			restCase{"the last age", tableAge(cell, 900)},
			restCase{"a hold of an earlier age", func(w *impl.WldWorld) { w.Servers[server].Holds[place].Age-- }},
			restCase{"no hold", func(w *impl.WldWorld) {
				w.Servers[server].Holds = slices.Delete(w.Servers[server].Holds, place, place+1)
			}},
			restCase{"another server has it", func(w *impl.WldWorld) { w.Table.Servers[cell] = 1 - server }},
			restCase{"a server that is down has it", func(w *impl.WldWorld) {
				w.Servers = append(w.Servers, impl.SrvServer{})
				w.Table.Servers[cell] = 2
			}},
		)
	}
	cases = append(cases, restCase{"the server 0 is down", serverDown(0)}, restCase{"the server 1 is down", serverDown(1)})
	askRestCases(t, false, cases)
}

func TestP7OneParcelIsNoRest(t *testing.T) {
	m := messagesMap
	var cases []restCase
	for cell := range 3 {
		for side := range 2 {
			there := besidePlainly(m, cell, side)
			if there == -1 {
				continue
			}
			// As far from this cell as can be, so that it is not at its edge.
			walker := impl.WlkWalker{Id: 7, At: there*4 + 3*side, Coins: 3, Seq: 4, Last: 1}
			for _, p := range []impl.PclParcel{{Kind: impl.PclCoins, Coins: 1}, {Kind: impl.PclWalker, Walker: walker}} {
				cases = append(cases, restCase{"in the beginning", func(w *impl.WldWorld) {
					base := &w.Stores[cell].Base
					p.N = base.Next[side]
					base.Outs[side] = append(base.Outs[side], p)
					base.Next[side]++
				}})
			}
			cases = append(cases, restCase{"by a record", func(w *impl.WldWorld) {
				base := &w.Stores[cell].Base
				edge := cell*4 + 3*side
				base.Walkers = append(base.Walkers, impl.WlkWalker{Id: 8, At: edge, Coins: 4})
				w.Stores[cell].Recs = append(w.Stores[cell].Recs, didOf(impl.OrdOrder{Who: 8, Seq: 1, Kind: impl.OrdThrow, To: side, N: 2}))
			}}, restCase{"a walker, by a record", func(w *impl.WldWorld) {
				base := &w.Stores[cell].Base
				edge := cell*4 + 3*side
				base.Walkers = append(base.Walkers, impl.WlkWalker{Id: 8, At: edge})
				w.Stores[cell].Recs = append(w.Stores[cell].Recs, didOf(impl.OrdOrder{Who: 8, Seq: 1, Kind: impl.OrdStep, To: side}))
			}})
		}
	}
	if len(cases) != 16 {
		t.Fatalf("there are %d cases", len(cases))
	}
	askRestCases(t, false, cases)
	askRestCases(t, false, []restCase{
		{"not let go of", func(w *impl.WldWorld) { w.Stores[1].Recs = w.Stores[1].Recs[:1] }},
		{"not let go of, to the left", func(w *impl.WldWorld) { w.Stores[2].Recs = w.Stores[2].Recs[:2] }},
	})
}

func TestP7OneOrderIsNoRest(t *testing.T) {
	var cases []restCase
	for i := range 3 {
		cases = append(cases, restCase{"a row", func(w *impl.WldWorld) {
			row := &w.Book.Rows[i]
			row.Busy, row.Order = true, impl.OrdOrder{Who: row.Who, Seq: row.Seq + 1, Kind: impl.OrdRest}
		}})
	}
	cases = append(cases, restCase{"a row of nobody", func(w *impl.WldWorld) {
		w.Book.Rows = append(w.Book.Rows, busyWith(2, impl.OrdOrder{Who: 9, Seq: 1, Kind: impl.OrdRest}))
	}})
	askRestCases(t, false, cases)
}

// The cells of a world, and what is none.
func TestP10CellsThatAreHeld(t *testing.T) {
	w := restingWorld()
	for cell := range 3 {
		for other := range 3 {
			later := turnedWorld(w, tableAge(cell, w.Table.Ages[cell]+1))
			if got := impl.WldHeld(later, other); got != (other != cell) {
				t.Errorf("where the cell %d is not held WldHeld of %d is %v", cell, other, got)
			}
		}
	}
	for _, n := range append([]int{-2, -1, 3, 4}, farNumbers...) {
		for _, w := range []impl.WldWorld{w, standingWorld(), impl.WldNew(messagesMap, nil, 1)} {
			if impl.WldHeld(w, n) {
				t.Errorf("WldHeld of the cell %d is true", n)
			}
		}
	}
	// Of four cells the last one is a cell.
	four := impl.WldCalm(impl.WldNew(impl.PlcMap{Cells: 4, Width: 2}, nil, 2), 1)
	if !impl.WldHeld(four, 0) || !impl.WldHeld(four, 3) || impl.WldHeld(four, -1) || impl.WldHeld(four, 4) {
		t.Errorf("of four cells there is %+v", four)
	}
}
