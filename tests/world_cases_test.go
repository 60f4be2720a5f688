package tests

import (
	"math/rand"
	"strconv"
	"testing"

	"loop.example/landmarch/impl"
)

func TestP19CellsAreGranted(t *testing.T) {
	w := standingWorld()
	given := func(cell, server, age int) []worldTurn {
		return []worldTurn{func(w *impl.WldWorld) { w.Table.Servers[cell], w.Table.Ages[cell] = server, age }, sends(grantOf(server, cell, age))}
	}
	last := func(w *impl.WldWorld) { w.Table.Servers[1], w.Table.Ages[1] = 0, 900 }
	cases := []stepCase{
		{"to the one that has it", w, grants(1, 1), given(1, 1, 6)},
		{"to another one", w, grants(1, 0), given(1, 0, 6)},
		{"the first cell", w, grants(0, 1), given(0, 1, 2)},
		{"the last cell", w, grants(2, 1), given(2, 1, 4)},
		{"to who is down", worldWith(serverDown(1)), grants(0, 1), given(0, 1, 2)},
		{"for the first time", worldWith(takes(0), func(w *impl.WldWorld) {
			w.Table.Servers[2], w.Table.Ages[2], w.Stores[2].Age = -1, 0, 0
			w.Servers[1].Holds = w.Servers[1].Holds[:1]
		}), grants(2, 1), given(2, 1, 1)},
		{"in the last age", worldWith(tableAge(1, 899)), grants(1, 0), given(1, 0, 900)},
		{"behind the last age", worldWith(last), grants(1, 1), nil},
		{"behind the last age, to the one that has it", worldWith(last), grants(1, 0), nil},
		{"another cell than that of the last age", worldWith(last), grants(0, 1), given(0, 1, 2)},
		{"the other fields are not asked", w, impl.WldEvent{Kind: impl.WldGrant, At: 1, What: -9, To: 0, N: 44}, given(1, 0, 6)},
	}
	for _, n := range append([]int{-1, 3, 4}, farNumbers...) {
		cases = append(cases, stepCase{"no cell " + strconv.Itoa(n), w, grants(n, 0), nil})
	}
	for _, n := range append([]int{-1, 2, 3}, farNumbers...) {
		cases = append(cases, stepCase{"no server " + strconv.Itoa(n), w, grants(0, n), nil})
	}
	askStepCases(t, cases)
}

func TestP20OrdersAreAskedAndSaid(t *testing.T) {
	w := standingWorld()
	busy := func(row int, o impl.OrdOrder) []worldTurn {
		return []worldTurn{func(w *impl.WldWorld) { w.Book.Rows[row].Busy, w.Book.Rows[row].Order = true, o }}
	}
	said := func(row int) []worldTurn {
		r := w.Book.Rows[row]
		return []worldTurn{sends(askOf(w.Table.Servers[r.Cell], r.Cell, r.Order))}
	}
	nobody := func(w *impl.WldWorld) {
		w.Table.Servers[0], w.Table.Ages[0], w.Stores[0].Age = -1, 0, 0
		w.Servers[0].Holds = nil
		w.Book.Rows[0].Cell = 0
	}
	give := impl.OrdOrder{Who: 2, Seq: 7, Kind: impl.OrdGive, To: 9, N: 9}
	drop := impl.OrdOrder{Who: 5, Seq: 1, Kind: impl.OrdDrop, N: 1}
	cases := []stepCase{
		{"an order", w, asks(give), busy(1, give)},
		{"the first order", w, asks(drop), busy(3, drop)},
		{"an order of who is Busy", w, asks(impl.OrdOrder{Who: 1, Kind: 6}), nil},
		{"an order past the last number", w, asks(impl.OrdOrder{Who: 8, Kind: 6}), nil},
		{"an order of who has no row", w, asks(impl.OrdOrder{Who: 4, Kind: 6}), nil},
		{"the last row", worldWith(func(w *impl.WldWorld) { w.Book.Rows[5].Seq = 899 }), asks(impl.OrdOrder{Who: 8, Kind: 6}), busy(5, impl.OrdOrder{Who: 8, Seq: 900, Kind: 6})},
		{"of no Kind", w, asks(impl.OrdOrder{Who: 2}), nil},
		{"past the Kinds", w, asks(impl.OrdOrder{Who: 2, Kind: 7}), nil},
		{"to itself", w, asks(impl.OrdOrder{Who: 2, Kind: impl.OrdGive, To: 2, N: 1}), nil},
		{"of too many coins", w, asks(impl.OrdOrder{Who: 2, Kind: impl.OrdDrop, N: 10}), nil},
		{"all servers down", worldWith(serverDown(0), serverDown(1)), asks(give), busy(1, give)},
		{"it says the first row", w, says(1), said(0)},
		{"it says the row in the middle", w, says(3), said(2)},
		{"it says what was said, to another server", w, says(6), said(4)},
		{"it says to who is down", worldWith(serverDown(1)), says(1), said(0)},
		{"nothing of who is not Busy", w, says(2), nil},
		{"nothing of the last row", w, says(8), nil},
		{"nothing of who has no row", w, says(4), nil},
		{"nothing to nobody", worldWith(nobody), says(1), nil},
		{"the other fields are not asked", w, impl.WldEvent{Kind: impl.WldSay, At: 1, What: 3, To: -8, N: 2}, said(0)},
	}
	for _, n := range append([]int{-1, 0, 9, 10}, farNumbers...) {
		cases = append(cases, stepCase{"no walker " + strconv.Itoa(n), w, asks(impl.OrdOrder{Who: n, Kind: 6}), nil}, stepCase{"no walker " + strconv.Itoa(n), w, says(n), nil})
	}
	askStepCases(t, cases)
}

func TestP18MessagesAreLostAndDoubled(t *testing.T) {
	w := standingWorld()
	var cases []stepCase
	for at, x := range w.Net {
		cases = append(cases,
			stepCase{"lost " + strconv.Itoa(at), w, loses(at), []worldTurn{takes(at)}},
			stepCase{"twice " + strconv.Itoa(at), w, doubles(at), []worldTurn{sends(x)}},
			stepCase{"twice, all down " + strconv.Itoa(at), worldWith(serverDown(0), serverDown(1)), doubles(at), []worldTurn{sends(x)}},
		)
	}
	for _, n := range append([]int{-1, len(w.Net), len(w.Net) + 1}, farNumbers...) {
		cases = append(cases, stepCase{"lost " + strconv.Itoa(n), w, loses(n), nil}, stepCase{"twice " + strconv.Itoa(n), w, doubles(n), nil})
	}
	for n := -1; n <= 1; n++ {
		none := worldWith(netOf(0))
		cases = append(cases, stepCase{"none lost " + strconv.Itoa(n), none, loses(n), nil}, stepCase{"none twice " + strconv.Itoa(n), none, doubles(n), nil})
	}
	cases = append(cases, stepCase{"the only one lost", worldWith(netOf(1)), loses(0), []worldTurn{netOf(0)}})
	askStepCases(t, cases)
}

func TestP16ServersFallAndRise(t *testing.T) {
	w, both := standingWorld(), worldWith(serverDown(0), serverDown(1))
	up := func(server int) []worldTurn {
		return []worldTurn{func(w *impl.WldWorld) { w.Servers[server] = impl.SrvServer{Up: true} }}
	}
	cases := []stepCase{
		{"the first one falls", w, falls(0), []worldTurn{serverDown(0)}},
		{"the last one falls", w, falls(1), []worldTurn{serverDown(1)}},
		{"who is down falls", both, falls(1), nil},
		{"who is up rises", w, rises(0), nil},
		{"who is up and holds nothing rises", worldWith(up(0)...), rises(0), nil},
		{"the first one rises", both, rises(0), up(0)},
		{"the last one rises", both, rises(1), up(1)},
		{"the other fields are not asked", w, impl.WldEvent{Kind: impl.WldFall, At: 1, What: 1, To: 0, N: 5}, []worldTurn{serverDown(1)}},
	}
	for _, n := range append([]int{-1, 2, 3}, farNumbers...) {
		cases = append(cases, stepCase{"no server falls", w, falls(n), nil}, stepCase{"no server rises", both, rises(n), nil})
	}
	askStepCases(t, cases)
}

// tickingWorld is the world of the cases, where the server 1 has so many parcels on their way from the cell 1 to the left.
func tickingWorld(parcels int, turns ...worldTurn) impl.WldWorld {
	return turnedWorld(standingWorld(), append(turns, func(w *impl.WldWorld) {
		c := &w.Stores[1].Base
		w.Stores[1].Recs = nil
		c.Walkers, c.Outs[0], c.Next[0] = nil, nil, parcels
		for n := range parcels {
			c.Outs[0] = append(c.Outs[0], impl.PclParcel{N: n, Kind: impl.PclCoins, Coins: 1 + n})
		}
		w.Servers[1].Holds[0] = impl.HldHolder{Age: 5, State: cloneCell(*c)}
	})...)
}

// parcelsSaid is the first so many of those parcels, as they are said.
func parcelsSaid(count int) []impl.MsgMsg {
	var list []impl.MsgMsg
	for n := range count {
		list = append(list, parcelOf(0, 0, impl.PlcRight, impl.PclParcel{N: n, Kind: impl.PclCoins, Coins: 1 + n}))
	}
	return list
}

func TestP13ServersTick(t *testing.T) {
	w := standingWorld()
	shows := func(to, cell, side, from, count int, walker impl.WlkWalker) impl.MsgMsg {
		return showOf(to, cell, side, impl.GstGhost{From: from, Count: count, Walker: walker})
	}
	all := []impl.MsgMsg{
		parcelOf(0, 0, impl.PlcRight, impl.PclParcel{N: 3, Kind: impl.PclCoins, Coins: 4}),
		parcelOf(0, 0, impl.PlcRight, impl.PclParcel{N: 4, Kind: impl.PclCoins, Coins: 6}),
		shows(0, 0, impl.PlcRight, 1, 3, impl.WlkWalker{Id: 1, At: 4, Coins: 5, Seq: 3, Last: impl.CodeFar}),
		shows(0, 2, impl.PlcLeft, 1, 3, impl.WlkWalker{Id: 3, At: 7, Coins: 9, Seq: 1, Last: 1}),
	}
	early := []impl.MsgMsg{
		parcelOf(0, 0, impl.PlcRight, impl.PclParcel{N: 2, Kind: impl.PclWalker, Walker: impl.WlkWalker{Id: 8, At: 3}}),
		all[0], all[1],
		shows(0, 0, impl.PlcRight, 1, 1, all[2].Ghost.Walker),
		shows(0, 2, impl.PlcLeft, 1, 1, all[3].Ghost.Walker),
	}
	cases := []stepCase{
		{"to both sides", w, ticks(1, 1), []worldTurn{sends(all...)}},
		{"a ghost", w, ticks(0, 0), []worldTurn{sends(shows(1, 1, impl.PlcLeft, 0, 0, impl.WlkWalker{Id: 5, At: 3, Coins: 3}))}},
		{"the last cell, by who has it no more", w, ticks(1, 2), []worldTurn{sends(shows(1, 1, impl.PlcRight, 2, 0, impl.WlkWalker{Id: 6, At: 8, Coins: 1, Seq: 2, Last: 1}))}},
		{"who held the cell before", w, ticks(0, 1), []worldTurn{sends(early...)}},
		{"a cell that it does not hold", w, ticks(1, 0), nil},
		{"a cell that it does not hold yet", w, ticks(0, 2), nil},
		{"who is down", worldWith(serverDown(1)), ticks(1, 1), nil},
		{"to who is down", worldWith(serverDown(0)), ticks(1, 1), []worldTurn{sends(all...)}},
		{"nothing to be said", tickingWorld(0), ticks(1, 1), nil},
		{"one thing to be said", tickingWorld(1), ticks(1, 1), []worldTurn{sends(parcelsSaid(1)...)}},
		{"as much as there may be", tickingWorld(5), ticks(1, 1), []worldTurn{sends(parcelsSaid(4)...)}},
		{"the other fields are not asked", w, impl.WldEvent{Kind: impl.WldTick, At: 1, What: 7, To: 1, N: -3}, []worldTurn{sends(all...)}},
	}
	for _, n := range append([]int{-1, 2, 3}, farNumbers...) {
		cases = append(cases, stepCase{"no server " + strconv.Itoa(n), w, ticks(n, 0), nil}, stepCase{"no server " + strconv.Itoa(n), w, ticks(n, n), nil})
	}
	for _, n := range append([]int{-1, 3, 4}, farNumbers...) {
		cases = append(cases, stepCase{"no cell " + strconv.Itoa(n), w, ticks(1, n), nil})
	}
	askStepCases(t, cases)
}

// What is sent when there is no room is gone; all else happens.
func TestP18P19P20WhereThereIsNoRoom(t *testing.T) {
	given := func(w *impl.WldWorld) { w.Table.Ages[1] = 6 }
	for count := 34; count <= 40; count++ {
		room := 40 - count
		first := func(messages []impl.MsgMsg) worldTurn { return sends(messages[:min(room, len(messages))]...) }
		w := worldWith(netOf(count))
		said := []impl.MsgMsg{askOf(1, 1, w.Book.Rows[0].Order)}
		askStepCases(t, []stepCase{
			{"a grant", w, grants(1, 1), []worldTurn{given, first([]impl.MsgMsg{grantOf(1, 1, 6)})}},
			{"no grant", w, grants(1, 2), nil},
			{"an order", w, says(1), []worldTurn{first(said)}},
			{"no order", w, says(2), nil},
			{"the first one twice", w, doubles(0), []worldTurn{first(w.Net[:1])}},
			{"the last one twice", w, doubles(count - 1), []worldTurn{first(w.Net[count-1:])}},
			{"one past the last one twice", w, doubles(count), nil},
			{"one past the last one lost", w, loses(count), nil},
			{"the last one lost", w, loses(count - 1), []worldTurn{takes(count - 1)}},
			{"one past the last one brought", w, brings(count), nil},
			{"what is asked", w, asks(impl.OrdOrder{Who: 5, Kind: 6}), []worldTurn{func(w *impl.WldWorld) {
				w.Book.Rows[3].Busy, w.Book.Rows[3].Order = true, impl.OrdOrder{Who: 5, Seq: 1, Kind: 6}
			}}},
		})
		for parcels := range 7 {
			askStepCases(t, []stepCase{{"a tick", tickingWorld(parcels, netOf(count)), ticks(1, 1), []worldTurn{first(parcelsSaid(min(parcels, 4)))}}})
		}
		// Who brings a message makes room for the answer.
		o := w.Net[1].Order
		askStepCases(t, []stepCase{
			{"an order is told", w, brings(1), []worldTurn{takes(1), writes(1, 1, didOf(o)), sends(toldOf(1, o, impl.CodeDone))}},
			{"a parcel has come", w, brings(4), []worldTurn{takes(4), writes(1, 1, cameFrom(0, w.Net[4].Parcel)), sends(gotOf(0, 0, 1, 2))}},
		})
	}
}

// A note for which there is no room is gone; the book has what was told.
func TestP14P15NotesAsManyAsThereMayBe(t *testing.T) {
	for _, count := range []int{0, 1, 148, 149, 150} {
		w := worldWith(notesOf(count))
		ended := func(w *impl.WldWorld) { w.Book.Rows[4] = impl.GwyRow{Who: 6, Cell: 1, Seq: 3, Code: impl.CodePoor} }
		noted := func(w *impl.WldWorld) {
			if count < 150 {
				w.Notes = append(w.Notes, impl.WldNote{Who: 6, Seq: 3, Code: impl.CodePoor})
			}
		}
		askStepCases(t, []stepCase{
			{"told", w, brings(2), []worldTurn{takes(2), ended, noted}},
			{"away", w, brings(3), []worldTurn{takes(3), func(w *impl.WldWorld) { w.Book.Rows[2].Cell = 2 }}},
			{"lost", w, loses(2), []worldTurn{takes(2)}},
		})
	}
}

func TestP13OtherKindsTurnNothing(t *testing.T) {
	for _, kind := range kindsOfNone {
		for _, w := range []impl.WldWorld{standingWorld(), worldWith(serverDown(0)), worldWith(netOf(40)), impl.WldNew(messagesMap, nil, 1)} {
			for at := -1; at <= 3; at++ {
				askStepCases(t, []stepCase{{"no Kind", w, impl.WldEvent{Kind: kind, At: at, What: 6, To: 1, N: 1}, nil}})
			}
		}
	}
	eachWorld(t, 333, 4, 4, func(_ *rand.Rand, w impl.WldWorld) {
		for _, kind := range kindsOfNone {
			askStepCases(t, []stepCase{{"no Kind", w, impl.WldEvent{Kind: kind}, nil}})
		}
	})
}
