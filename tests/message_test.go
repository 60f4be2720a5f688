package tests

import (
	"math/rand"
	"strconv"
	"testing"

	"loop.example/landmarch/impl"
)

// messagesMap is the map of the messages that are written out: 3 cells with 4 places, for 2 servers.
var messagesMap = impl.PlcMap{Cells: 3, Width: 4}

// goodMessages is one message of each Kind that is ok on that map, about its middle cell.
func goodMessages() []impl.MsgMsg {
	order := impl.OrdOrder{Who: 4, Seq: 7, Kind: impl.OrdGive, To: 2, N: 3}
	return []impl.MsgMsg{
		grantOf(1, 1, 5),
		askOf(1, 1, order),
		toldOf(1, order, impl.CodeFar),
		awayOf(1, order),
		parcelOf(1, 1, impl.PlcLeft, impl.PclParcel{N: 3, Kind: impl.PclCoins, Coins: 6}),
		gotOf(1, 1, impl.PlcLeft, 2),
		showOf(1, 1, impl.PlcLeft, impl.GstGhost{From: 0, Count: 4, Walker: impl.WlkWalker{Id: 5, At: 3, Coins: 8}}),
	}
}

// messageTurn is what turns in a message.
type messageTurn = func(*impl.MsgMsg)

// turnedMessage is the message with something turned in it.
func turnedMessage(x impl.MsgMsg, turns ...messageTurn) impl.MsgMsg {
	for _, turn := range turns {
		turn(&x)
	}
	return x
}

// someMore is, by its name, what turns a message's parts to what another Kind has, whole and in part.
func someMore() map[string]messageTurn {
	return map[string]messageTurn{
		"Side 1":           func(x *impl.MsgMsg) { x.Side = 1 },
		"Side -1":          func(x *impl.MsgMsg) { x.Side = -1 },
		"Side 2":           func(x *impl.MsgMsg) { x.Side = 2 },
		"a number":         func(x *impl.MsgMsg) { x.N = 1 },
		"a number below 0": func(x *impl.MsgMsg) { x.N = -1 },
		"an order":         func(x *impl.MsgMsg) { x.Order = impl.OrdOrder{Who: 4, Seq: 7, Kind: impl.OrdRest} },
		"half an order":    func(x *impl.MsgMsg) { x.Order = impl.OrdOrder{N: 1} },
		"a parcel": func(x *impl.MsgMsg) {
			x.Parcel = impl.PclParcel{N: 0, Kind: impl.PclCoins, Coins: 1}
		},
		"half a parcel": func(x *impl.MsgMsg) { x.Parcel = impl.PclParcel{Walker: impl.WlkWalker{Seq: 1}} },
		"a ghost": func(x *impl.MsgMsg) {
			x.Ghost = impl.GstGhost{From: 0, Walker: impl.WlkWalker{Id: 5, At: 3}}
		},
		"half a ghost": func(x *impl.MsgMsg) { x.Ghost = impl.GstGhost{Walker: impl.WlkWalker{Last: 1}} },
	}
}

// mayHave is, by Kind, what of someMore a message may have that has it instead of its own.
func mayHave(kind int, name string) bool {
	switch name {
	case "Side 1":
		return kind == impl.MsgParcel || kind == impl.MsgGot
	case "a number":
		return kind == impl.MsgGrant || kind == impl.MsgTold || kind == impl.MsgGot
	case "an order":
		return kind == impl.MsgAsk || kind == impl.MsgTold || kind == impl.MsgAway
	case "a parcel":
		return kind == impl.MsgParcel
	case "a ghost":
		return kind == impl.MsgGhost
	}
	return false
}

// wrongMessages is, by what is wrong, messages that are not ok on that map for 2 servers, for each clause of the chapter by itself.
func wrongMessages() map[string]impl.MsgMsg {
	wrong := map[string]impl.MsgMsg{"nothing": {}}
	for _, good := range goodMessages() {
		of := "Kind " + strconv.Itoa(good.Kind) + ": "
		add := func(why string, turn messageTurn) { wrong[of+why] = turnedMessage(good, turn) }
		for _, kind := range append([]int{-1, 0, 8, 9}, farNumbers...) {
			add("of no Kind "+strconv.Itoa(kind), func(x *impl.MsgMsg) { x.Kind = kind })
		}
		for _, cell := range append([]int{-1, 3, 4}, farNumbers...) {
			add("Cell "+strconv.Itoa(cell), func(x *impl.MsgMsg) { x.Cell = cell })
		}
		for _, to := range append([]int{-2, 2, 3}, farNumbers...) {
			add("To "+strconv.Itoa(to), func(x *impl.MsgMsg) { x.To = to })
		}
		if good.To == impl.MsgGate {
			add("for the server 0", func(x *impl.MsgMsg) { x.To = 0 })
			add("for the server 1", func(x *impl.MsgMsg) { x.To = 1 })
		} else {
			add("for the gateway", func(x *impl.MsgMsg) { x.To = impl.MsgGate })
		}
		for name, more := range someMore() {
			if !mayHave(good.Kind, name) {
				add(name, more)
			}
		}
		for why, x := range wrongInside(good) {
			wrong[of+why] = x
		}
	}
	return wrong
}

// wrongInside is a message with what its Kind has, but not ok.
func wrongInside(good impl.MsgMsg) map[string]impl.MsgMsg {
	wrong := map[string]impl.MsgMsg{}
	add := func(why string, turn messageTurn) { wrong[why] = turnedMessage(good, turn) }
	past := map[int]int{impl.MsgGrant: 901, impl.MsgTold: 10, impl.MsgGot: 5001}
	if end, has := past[good.Kind]; has {
		for _, n := range append([]int{-1, 0, end, end + 1}, farNumbers...) {
			add("N "+strconv.Itoa(n), func(x *impl.MsgMsg) { x.N = n })
		}
	}
	if good.Order != (impl.OrdOrder{}) {
		add("no order", func(x *impl.MsgMsg) { x.Order = impl.OrdOrder{} })
		add("an order of nobody", func(x *impl.MsgMsg) { x.Order.Who = 0 })
		add("an order past the walkers", func(x *impl.MsgMsg) { x.Order.Who = 10 })
		add("an order without a number", func(x *impl.MsgMsg) { x.Order.Seq = 0 })
		add("an order past the numbers", func(x *impl.MsgMsg) { x.Order.Seq = 901 })
		add("an order of too many", func(x *impl.MsgMsg) { x.Order.N = 10 })
		add("a gift to itself", func(x *impl.MsgMsg) { x.Order.To = 4 })
	}
	if good.Kind >= impl.MsgParcel {
		for _, side := range append([]int{-1, 2}, farNumbers...) {
			add("on the Side "+strconv.Itoa(side), func(x *impl.MsgMsg) { x.Side = side })
		}
		add("no cell on the left", func(x *impl.MsgMsg) { x.Cell, x.Side = 0, 0 })
		add("no cell on the right", func(x *impl.MsgMsg) { x.Cell, x.Side = 2, 1 })
	}
	if good.Kind == impl.MsgParcel {
		add("no parcel", func(x *impl.MsgMsg) { x.Parcel = impl.PclParcel{} })
		add("a parcel of none", func(x *impl.MsgMsg) { x.Parcel.Coins = 0 })
		add("a parcel of too many", func(x *impl.MsgMsg) { x.Parcel.Coins = 10 })
		add("a parcel below the numbers", func(x *impl.MsgMsg) { x.Parcel.N = -1 })
		add("a parcel past the numbers", func(x *impl.MsgMsg) { x.Parcel.N = 5000 })
		add("a parcel of both", func(x *impl.MsgMsg) { x.Parcel.Walker = impl.WlkWalker{Id: 1} })
		add("a parcel past the map", func(x *impl.MsgMsg) {
			x.Parcel = impl.PclParcel{N: 3, Kind: impl.PclWalker, Walker: impl.WlkWalker{Id: 1, At: 12}}
		})
	}
	if good.Kind == impl.MsgGhost {
		for why, g := range wrongGhosts() {
			add("a ghost: "+why, func(x *impl.MsgMsg) { x.Ghost = g })
			add("a ghost on the right of the cell 0: "+why, func(x *impl.MsgMsg) { x.Cell, x.Side, x.Ghost = 0, 1, g })
		}
		add("the ghost of the other side", func(x *impl.MsgMsg) { x.Side = 1 })
		add("a ghost from the cell itself", func(x *impl.MsgMsg) { x.Ghost.From, x.Ghost.Walker.At = 1, 4 })
		add("a ghost from the cell behind", func(x *impl.MsgMsg) { x.Cell = 2 })
	}
	return wrong
}

// askMessage asks that a message is ok as the words say.
func askMessage(t *testing.T, m impl.PlcMap, servers int, x impl.MsgMsg) bool {
	t.Helper()
	got := impl.MsgOk(m, servers, x)
	if got != messageOkPlainly(m, servers, x) {
		t.Fatalf("MsgOk(%v, %d, %+v) is %v", m, servers, x, got)
	}
	return got
}

func TestP22MessagesThatAreOk(t *testing.T) {
	for _, x := range goodMessages() {
		for _, servers := range []int{2, 3} {
			if !askMessage(t, messagesMap, servers, x) {
				t.Errorf("for %d servers MsgOk(%+v) is false", servers, x)
			}
		}
		for _, servers := range append([]int{-1, 0, 4, 5}, farNumbers...) {
			if askMessage(t, messagesMap, servers, x) {
				t.Errorf("for %d servers MsgOk(%+v) is true", servers, x)
			}
		}
		for _, bad := range badMaps() {
			if impl.MsgOk(bad, 2, x) {
				t.Errorf("MsgOk(%v, %+v) is true", bad, x)
			}
		}
	}
}

func TestP22MessagesThatAreNotOk(t *testing.T) {
	for why, x := range wrongMessages() {
		for _, servers := range []int{1, 2} {
			if askMessage(t, messagesMap, servers, x) {
				t.Errorf("%s: for %d servers MsgOk(%+v) is true", why, servers, x)
			}
		}
	}
}

// To is one of the servers, or the gateway for an answer, and for nothing else.
func TestP22ToWhomMessagesGo(t *testing.T) {
	for _, good := range goodMessages() {
		for _, servers := range numbersAround(1, 3) {
			for _, to := range numbersAround(-1, 3) {
				x := turnedMessage(good, func(x *impl.MsgMsg) { x.To = to })
				want := servers >= 1 && servers <= 3 && to >= 0 && to < servers
				if good.To == -1 {
					want = servers >= 1 && servers <= 3 && to == -1
				}
				if got := askMessage(t, messagesMap, servers, x); got != want {
					t.Errorf("of %d servers MsgOk(%+v) is %v", servers, x, got)
				}
			}
		}
	}
}

// N at its bounds, for each Kind that has one.
func TestP22NumbersOfMessages(t *testing.T) {
	last := map[int]int{impl.MsgGrant: 900, impl.MsgTold: 9, impl.MsgGot: 5000}
	for _, good := range goodMessages() {
		for _, n := range append([]int{-1, 0, 1, 2, 8, 9, 10, 899, 900, 901, 4999, 5000, 5001}, farNumbers...) {
			x := turnedMessage(good, func(x *impl.MsgMsg) { x.N = n })
			end, has := last[good.Kind]
			want := n == 0
			if has {
				want = n >= 1 && n <= end
			}
			if got := askMessage(t, messagesMap, 2, x); got != want {
				t.Errorf("MsgOk(%+v) is %v", x, got)
			}
		}
	}
}

// Cells and sides, with and without a cell there, for each Kind on each map.
func TestP22CellsAndSidesOfMessages(t *testing.T) {
	count := map[bool]int{}
	for _, m := range okMaps() {
		for _, good := range goodMessages() {
			for _, cell := range append([]int{-1, 0, 1, 2, 3, 4}, farNumbers...) {
				for _, side := range append([]int{-1, 0, 1, 2}, farNumbers...) {
					x := turnedMessage(good, func(x *impl.MsgMsg) { x.Cell, x.Side = cell, side })
					there := cell >= 0 && cell < m.Cells
					want := there && side == 0
					if good.Kind >= impl.MsgParcel {
						want = there && (side == 0 && cell > 0 || side == 1 && cell < m.Cells-1)
					}
					if good.Kind == impl.MsgGhost {
						from := cell + 2*min(max(0, side), 1) - 1
						x.Ghost = impl.GstGhost{From: from, Count: 4, Walker: impl.WlkWalker{Id: 5, At: m.Width * max(0, min(from, m.Cells))}}
						if from == 0 {
							x.Ghost.Walker.At = m.Width - 1
						}
					}
					if got := askMessage(t, m, 2, x); got != want {
						t.Errorf("MsgOk(%v, %+v) is %v", m, x, got)
					}
					count[want]++
				}
			}
		}
	}
	if count[true] < 300 || count[false] < 3000 {
		t.Errorf("so many were ok: %v", count)
	}
}

// A ghost is from the cell on that side, at either edge of that.
func TestP22GhostsOfMessages(t *testing.T) {
	for _, m := range okMaps() {
		for cell := range m.Cells {
			for side := -1; side <= 2; side++ {
				for from := -1; from <= m.Cells; from++ {
					for at := -1; at <= m.Cells*m.Width; at++ {
						g := impl.GstGhost{From: from, Count: 250, Walker: impl.WlkWalker{Id: 1, At: at}}
						got := askMessage(t, m, 1, showOf(0, cell, side, g))
						beside := from == cell-1 && side == 0 || from == cell+1 && side == 1
						if got && !beside || got != (beside && ghostOkPlainly(m, g)) {
							t.Fatalf("on %v the ghost %+v for %d on the side %d is %v", m, g, cell, side, got)
						}
					}
				}
			}
		}
	}
}

// What another Kind has is too much, also beside all that its own has.
func TestP22WhatMessagesDoNotHave(t *testing.T) {
	for _, good := range goodMessages() {
		for name, more := range someMore() {
			if got := askMessage(t, messagesMap, 2, turnedMessage(good, more)); got != mayHave(good.Kind, name) {
				t.Errorf("%s in %+v: %v", name, good, got)
			}
		}
		for kind := -1; kind <= 9; kind++ {
			x := turnedMessage(good, func(x *impl.MsgMsg) { x.Kind = kind })
			// A grant and a word that parcels have come both have a number alone, and a Side of 0 is one.
			want := kind == good.Kind || hasNumberAlone(kind) && hasNumberAlone(good.Kind)
			if got := askMessage(t, messagesMap, 2, x); got != want {
				t.Errorf("as one of the Kind %d %+v is %v", kind, good, got)
			}
		}
	}
}

func hasNumberAlone(kind int) bool {
	return kind == impl.MsgGrant || kind == impl.MsgGot
}

// Messages with anything in any part, against the words.
func TestP22AnyMessages(t *testing.T) {
	r := rand.New(rand.NewSource(271))
	wrong := wrongOrders()
	count := map[bool]int{}
	parts := []messageTurn{}
	for _, good := range goodMessages() {
		parts = append(parts,
			func(x *impl.MsgMsg) { x.N = good.N },
			func(x *impl.MsgMsg) { x.Order = good.Order },
			func(x *impl.MsgMsg) { x.Parcel = good.Parcel },
			func(x *impl.MsgMsg) { x.Ghost = good.Ghost })
	}
	parts = append(parts, func(x *impl.MsgMsg) { x.Order = wrong[r.Intn(len(wrong))] })
	for range 100000 {
		m := okMaps()[r.Intn(21)]
		if r.Intn(3) > 0 {
			m = messagesMap
		}
		x := goodMessages()[r.Intn(7)]
		if r.Intn(3) == 0 {
			x.Kind = r.Intn(9)
		}
		if r.Intn(3) == 0 {
			x.To = r.Intn(5) - 1
		}
		if r.Intn(3) == 0 {
			x.Cell, x.Side = r.Intn(5)-1, r.Intn(2)
		}
		for range r.Intn(3) {
			parts[r.Intn(len(parts))](&x)
		}
		count[askMessage(t, m, 1+r.Intn(3), x)]++
	}
	if count[true] < 3000 || count[false] < 3000 {
		t.Errorf("so many were ok: %v", count)
	}
}
