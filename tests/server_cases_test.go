package tests

import (
	"slices"
	"strconv"
	"testing"

	"loop.example/landmarch/impl"
)

// standing is a server that is up and holds the cells 1 and 2 of a map of 3 cells with 4 places: the cell 1 in the age 5, with three records. Its neighbours are the server 0 on the left and itself on the right.
func standing() hearing {
	m := messagesMap
	c := turnedCell(bareCell(1), func(c *impl.CllCell) {
		c.Walkers = []impl.WlkWalker{
			{Id: 1, At: 4, Coins: 5, Seq: 3, Last: impl.CodeFar},
			{Id: 2, At: 5, Seq: 6},
			{Id: 3, At: 7, Coins: 9},
		}
		c.Ground = 10
		c.Outs[0] = []impl.PclParcel{
			{N: 2, Kind: impl.PclWalker, Walker: impl.WlkWalker{Id: 8, At: 3}},
			{N: 3, Kind: impl.PclCoins, Coins: 4},
			{N: 4, Kind: impl.PclCoins, Coins: 6},
		}
		c.Next = []int{5, 0}
		c.Ins = []int{1, 7}
	})
	recs := []impl.LogRec{restOf(3, 1), cameFrom(1, impl.PclParcel{N: 7, Kind: impl.PclCoins, Coins: 2}), ackOf(0, 3)}
	h := hearing{
		m: m,
		stores: []impl.StoStore{
			impl.StoNew(m, 0, nil),
			{Age: 5, Base: c, Recs: recs},
			{Age: 2, Base: turnedCell(bareCell(2), func(c *impl.CllCell) {
				c.Walkers = []impl.WlkWalker{{Id: 6, At: 8, Coins: 1, Seq: 2, Last: 1}}
			})},
		},
		table:   impl.ArbTable{Servers: []int{0, 1, 1}, Ages: []int{1, 5, 2}},
		servers: 2,
		server: impl.SrvServer{Up: true, Ghosts: []impl.GstGhost{
			{From: 0, Count: 4, Walker: impl.WlkWalker{Id: 5, At: 3, Coins: 3}},
			{From: 2, Count: 9, Walker: impl.WlkWalker{Id: 6, At: 8}},
		}},
	}
	h.server.Holds = []impl.HldHolder{
		{Age: 5, Count: 3, State: impl.StoState(m, h.stores[1])},
		{Age: 2, Count: 0, State: impl.StoState(m, h.stores[2])},
	}
	return h
}

// hearingTurn is what turns in a hearing.
type hearingTurn = func(*hearing)

// standingWith is the same with something turned in it.
func standingWith(turns ...hearingTurn) hearing {
	h := standing()
	for _, turn := range turns {
		turn(&h)
	}
	return h
}

// without lets the server not hold a cell.
func without(cell int) hearingTurn {
	return func(h *hearing) {
		h.server.Holds = slices.DeleteFunc(h.server.Holds, func(hold impl.HldHolder) bool { return hold.State.Cell == cell })
	}
}

// storeAge lets the store of the cell 1 be of an age.
func storeAge(age int) hearingTurn {
	return func(h *hearing) { h.stores[1].Age = age }
}

// holdAge lets the hold on the cell 1 be of an age.
func holdAge(age int) hearingTurn {
	return func(h *hearing) { h.server.Holds[0].Age = age }
}

// oneMoreRecord lets there be one more record in the store than the hold has read.
func oneMoreRecord(h *hearing) {
	h.stores[1].Recs = append(h.stores[1].Recs, restOf(3, 2))
}

// fullLog lets the log of the cell 1 be full, and all of it be read.
func fullLog(h *hearing) {
	for seq := 2; len(h.stores[1].Recs) < 250; seq++ {
		h.stores[1].Recs = append(h.stores[1].Recs, restOf(3, seq))
	}
	h.server.Holds[0] = impl.HldHolder{Age: 5, Count: 250, State: impl.StoState(h.m, h.stores[1])}
}

// down lets the server not be up.
func down(h *hearing) {
	h.server = impl.SrvServer{}
}

// nobodyHas lets no server have a cell.
func nobodyHas(cell int) hearingTurn {
	return func(h *hearing) { h.table.Servers[cell], h.table.Ages[cell] = -1, 0 }
}

// insAre lets the cell 1 have Ins on a side, at its beginning, with no records.
func insAre(side, n int) hearingTurn {
	return func(h *hearing) {
		h.stores[1].Recs = nil
		h.stores[1].Base.Ins[side] = n
		h.server.Holds[0] = impl.HldHolder{Age: 5, State: impl.StoState(h.m, h.stores[1])}
	}
}

// wrote lets the record be in the store and in the hold of a cell.
func wrote(cell int, r impl.LogRec) hearingTurn {
	return func(h *hearing) {
		for i, hold := range h.server.Holds {
			if hold.State.Cell == cell {
				h.server.Holds[i], h.stores[cell], _, _ = writePlainly(h.m, hold, h.stores[cell], r)
			}
		}
	}
}

// hearCase is a message, by whom it is heard, what has turned behind it, and what is said.
type hearCase struct {
	why   string
	by    hearing
	x     impl.MsgMsg
	turns []hearingTurn
	said  []impl.MsgMsg
}

// askCases asks for each case, by the words as well.
func askCases(t *testing.T, cases []hearCase) {
	t.Helper()
	for _, c := range cases {
		got := askHear(t, c.by, c.x)
		want := hearing{m: c.by.m, server: cloneServer(c.by.server), stores: cloneStores(c.by.stores)}
		for _, turn := range c.turns {
			turn(&want)
		}
		if !got.same(heard{server: want.server, stores: want.stores, said: c.said}) {
			t.Errorf("%s: %+v, heard by %+v, is\n%+v, not\n%+v, %+v", c.why, c.x, c.by, got, want, c.said)
		}
	}
}

func TestStandingIsOk(t *testing.T) {
	for why, h := range map[string]hearing{
		"as it is":      standing(),
		"with more":     standingWith(oneMoreRecord),
		"full":          standingWith(fullLog),
		"down":          standingWith(down),
		"one cell less": standingWith(without(1)),
		"Ins":           standingWith(insAre(1, 5000)),
	} {
		if !serverOkPlainly(h.m, h.server) || !storesOkPlainly(h.m, h.stores) || !tableOkPlainly(h.m, h.table, h.servers) {
			t.Errorf("%s: the test's own %+v is not ok", why, h)
		}
	}
}

func TestP24P25P26OrdersAreHeard(t *testing.T) {
	rest := func(who, seq int) impl.OrdOrder { return impl.OrdOrder{Who: who, Seq: seq, Kind: impl.OrdRest} }
	step := impl.OrdOrder{Who: 1, Seq: 4, Kind: impl.OrdStep, To: impl.PlcLeft}
	poor := impl.OrdOrder{Who: 2, Seq: 7, Kind: impl.OrdDrop, N: 1}
	told := func(o impl.OrdOrder, code int) []impl.MsgMsg { return []impl.MsgMsg{toldOf(1, o, code)} }
	away := func(o impl.OrdOrder) []impl.MsgMsg { return []impl.MsgMsg{awayOf(1, o)} }
	ask := func(o impl.OrdOrder) impl.MsgMsg { return askOf(1, 1, o) }
	writes := func(o impl.OrdOrder) []hearingTurn { return []hearingTurn{wrote(1, didOf(o))} }
	lost := []hearingTurn{without(1)}
	askCases(t, []hearCase{
		{"a new one", standing(), ask(rest(1, 4)), writes(rest(1, 4)), told(rest(1, 4), impl.CodeDone)},
		{"a new one far on", standing(), ask(rest(1, 900)), writes(rest(1, 900)), told(rest(1, 900), impl.CodeDone)},
		{"the first one of its walker", standingWith(func(h *hearing) { h.stores[1].Base.Walkers[0].Seq, h.server.Holds[0].State.Walkers[0].Seq = 0, 0 }), ask(rest(1, 1)), writes(rest(1, 1)), told(rest(1, 1), impl.CodeDone)},
		{"one that can't be done", standing(), ask(poor), writes(poor), told(poor, impl.CodePoor)},
		{"a step into the next cell", standing(), ask(step), writes(step), told(step, impl.CodeDone)},
		{"and once more", standingWith(wrote(1, didOf(step))), ask(step), nil, away(step)},
		{"the last one", standing(), ask(rest(1, 3)), nil, told(rest(1, 3), impl.CodeFar)},
		{"the last one, whose Last is 0", standing(), ask(rest(2, 6)), nil, nil},
		{"an earlier one", standing(), ask(rest(1, 2)), nil, nil},
		{"an earlier one, whose Last is 0", standing(), ask(rest(2, 5)), nil, nil},
		{"of a walker in another cell", standing(), ask(rest(6, 3)), nil, away(rest(6, 3))},
		{"of a walker in a parcel", standing(), ask(rest(8, 1)), nil, away(rest(8, 1))},
		{"of a walker that is nowhere", standing(), ask(rest(9, 900)), nil, away(rest(9, 900))},
		{"it does not hold the cell", standingWith(without(1)), ask(rest(1, 4)), nil, nil},
		{"it does not hold the cell, the last one", standingWith(without(1)), ask(rest(1, 3)), nil, nil},
		{"it does not hold the cell, the walker is away", standingWith(without(1)), ask(rest(9, 1)), nil, nil},
		{"it holds none", standingWith(without(1), without(2)), ask(rest(1, 4)), nil, nil},
		{"it is down", standingWith(down), ask(rest(1, 4)), nil, nil},
		{"it is down, the walker is away", standingWith(down), ask(rest(9, 1)), nil, nil},
		{"an earlier age", standingWith(storeAge(6)), ask(rest(1, 4)), lost, nil},
		{"an earlier age, what can't be done", standingWith(storeAge(900)), ask(poor), lost, nil},
		{"an earlier age, more records", standingWith(storeAge(6), oneMoreRecord), ask(rest(1, 4)), lost, nil},
		{"a later age", standingWith(storeAge(4)), ask(rest(1, 4)), lost, nil},
		{"an earlier age, the last one", standingWith(storeAge(6)), ask(rest(1, 3)), nil, told(rest(1, 3), impl.CodeFar)},
		{"an earlier age, an earlier one", standingWith(storeAge(6)), ask(rest(1, 2)), nil, nil},
		{"an earlier age, the walker is away", standingWith(storeAge(6)), ask(rest(9, 1)), nil, away(rest(9, 1))},
		{"fewer records read", standingWith(oneMoreRecord), ask(rest(1, 4)), nil, nil},
		{"fewer records read, the order in the log", standingWith(oneMoreRecord), ask(rest(3, 2)), nil, nil},
		{"fewer records read, the last one", standingWith(oneMoreRecord), ask(rest(1, 3)), nil, told(rest(1, 3), impl.CodeFar)},
		{"fewer records read, the walker is away", standingWith(oneMoreRecord), ask(rest(9, 1)), nil, away(rest(9, 1))},
		{"the log is full", standingWith(fullLog), ask(rest(1, 4)), nil, nil},
		{"the log is full, the last one", standingWith(fullLog), ask(rest(1, 3)), nil, told(rest(1, 3), impl.CodeFar)},
		{"the last record", standingWith(fullLog, oneLess), ask(rest(1, 4)), writes(rest(1, 4)), told(rest(1, 4), impl.CodeDone)},
		{"not in the store's cell", standingWith(func(h *hearing) { h.stores[1].Base.Walkers[0].Seq = 9 }), ask(rest(1, 4)), nil, nil},
	})
}

// oneLess takes the last record out of the log of the cell 1, and of what was read.
func oneLess(h *hearing) {
	h.stores[1].Recs = h.stores[1].Recs[:len(h.stores[1].Recs)-1]
	h.server.Holds[0] = impl.HldHolder{Age: 5, Count: len(h.stores[1].Recs), State: impl.StoState(h.m, h.stores[1])}
}

// Every code of an order that is done is told.
func TestP26EveryCodeIsTold(t *testing.T) {
	codes := map[int]int{}
	eachFresh(t, 283, 2, func(m impl.PlcMap, c impl.CllCell, o impl.OrdOrder) {
		h := hearing{m: m, table: impl.ArbNew(m), servers: 1}
		for cell := range m.Cells {
			h.stores = append(h.stores, impl.StoStore{Age: 3, Base: bareCell(cell)})
		}
		h.stores[c.Cell].Base = c
		h.server = impl.SrvServer{Up: true, Holds: []impl.HldHolder{{Age: 3, State: c}}}
		_, want := doPlainly(m, c, o)
		got := h.hear(askOf(0, c.Cell, o))
		if !slices.Equal(got.said, []impl.MsgMsg{toldOf(c.Cell, o, want)}) || !slices.Equal(got.stores[c.Cell].Recs, []impl.LogRec{didOf(o)}) {
			t.Fatalf("%+v in %+v is told %+v, not %d", o, c, got.said, want)
		}
		codes[want]++
	})
	for code := impl.CodeDone; code <= impl.CodeInner; code++ {
		if codes[code] == 0 {
			t.Errorf("so many of each code: %v", codes)
		}
	}
}

func TestP23P24P25ParcelsAreHeard(t *testing.T) {
	coins := func(n int) impl.PclParcel { return impl.PclParcel{N: n, Kind: impl.PclCoins, Coins: 3} }
	walker := func(n, id, at int) impl.PclParcel {
		return impl.PclParcel{N: n, Kind: impl.PclWalker, Walker: impl.WlkWalker{Id: id, At: at, Seq: 5}}
	}
	left := func(p impl.PclParcel) impl.MsgMsg { return parcelOf(1, 1, impl.PlcLeft, p) }
	right := func(p impl.PclParcel) impl.MsgMsg { return parcelOf(0, 1, impl.PlcRight, p) }
	came := func(side int, p impl.PclParcel) []hearingTurn { return []hearingTurn{wrote(1, cameFrom(side, p))} }
	toLeft := func(n int) []impl.MsgMsg { return []impl.MsgMsg{gotOf(0, 0, impl.PlcRight, n)} }
	toRight := func(n int) []impl.MsgMsg { return []impl.MsgMsg{gotOf(1, 2, impl.PlcLeft, n)} }
	lost := []hearingTurn{without(1)}
	fullGround := func(h *hearing) { h.stores[1].Base.Ground, h.server.Holds[0].State.Ground = 896, 898 }
	askCases(t, []hearCase{
		{"the next one from the left", standing(), left(coins(1)), came(0, coins(1)), toLeft(2)},
		{"the next one from the right", standing(), right(coins(8)), came(1, coins(8)), toRight(9)},
		{"a walker", standing(), left(walker(1, 9, 4)), came(0, walker(1, 9, 4)), toLeft(2)},
		{"the one before", standing(), right(coins(7)), nil, toRight(8)},
		{"the first one", standing(), right(coins(0)), nil, toRight(8)},
		{"the one before, with something else", standing(), left(walker(0, 1, 0)), nil, toLeft(1)},
		{"the one behind", standing(), right(coins(9)), nil, nil},
		{"a late one", standing(), left(coins(4999)), nil, nil},
		{"a walker that is there", standing(), left(walker(1, 2, 4)), nil, nil},
		{"a walker in another cell", standing(), left(walker(1, 9, 3)), nil, nil},
		{"no room on the ground", standingWith(fullGround), left(coins(1)), nil, nil},
		{"the last number", standingWith(insAre(0, 4999)), left(coins(4999)), came(0, coins(4999)), toLeft(5000)},
		{"behind the last number", standingWith(insAre(0, 5000)), left(coins(4999)), nil, toLeft(5000)},
		{"behind the last number, an earlier one", standingWith(insAre(1, 5000)), right(coins(0)), nil, toRight(5000)},
		{"the first number", standingWith(insAre(1, 0)), right(coins(0)), came(1, coins(0)), toRight(1)},
		{"nobody has the left cell", standingWith(nobodyHas(0)), left(coins(1)), came(0, coins(1)), nil},
		{"nobody has the left cell, the one before", standingWith(nobodyHas(0)), left(coins(0)), nil, nil},
		{"nobody has the right cell", standingWith(nobodyHas(2)), right(coins(8)), came(1, coins(8)), nil},
		{"nobody has the right cell, one from the left", standingWith(nobodyHas(2)), left(coins(1)), came(0, coins(1)), toLeft(2)},
		{"nobody has this cell", standingWith(nobodyHas(1)), left(coins(1)), came(0, coins(1)), toLeft(2)},
		{"it does not hold the cell", standingWith(without(1)), left(coins(1)), nil, nil},
		{"it does not hold the cell, the one before", standingWith(without(1)), left(coins(0)), nil, nil},
		{"it is down", standingWith(down), left(coins(1)), nil, nil},
		{"it is down, the one before", standingWith(down), left(coins(0)), nil, nil},
		{"an earlier age", standingWith(storeAge(6)), left(coins(1)), lost, nil},
		{"an earlier age, the one behind", standingWith(storeAge(6)), left(coins(2)), lost, nil},
		{"an earlier age, a walker that is there", standingWith(storeAge(6)), left(walker(1, 2, 4)), lost, nil},
		{"an earlier age, the one before", standingWith(storeAge(6)), left(coins(0)), nil, toLeft(1)},
		{"a later age", standingWith(storeAge(0)), left(coins(1)), lost, nil},
		{"fewer records read", standingWith(oneMoreRecord), left(coins(1)), nil, nil},
		{"fewer records read, the one before", standingWith(oneMoreRecord), left(coins(0)), nil, toLeft(1)},
		{"the log is full", standingWith(fullLog), left(coins(1)), nil, nil},
		{"the log is full, the one before", standingWith(fullLog), left(coins(0)), nil, toLeft(1)},
	})
}

func TestP23P24P25WordsThatParcelsHaveComeAreHeard(t *testing.T) {
	left := func(n int) impl.MsgMsg { return gotOf(1, 1, impl.PlcLeft, n) }
	acked := func(n int) []hearingTurn { return []hearingTurn{wrote(1, ackOf(0, n))} }
	lost := []hearingTurn{without(1)}
	askCases(t, []hearCase{
		{"the first of two", standing(), left(4), acked(4), nil},
		{"both", standing(), left(5), acked(5), nil},
		{"none", standing(), left(3), nil, nil},
		{"earlier ones", standing(), left(1), nil, nil},
		{"one that has not gone", standing(), left(6), nil, nil},
		{"the last that there can be", standing(), left(5000), nil, nil},
		{"both twice", standingWith(wrote(1, ackOf(0, 5))), left(5), nil, nil},
		{"the first one behind both", standingWith(wrote(1, ackOf(0, 5))), left(4), nil, nil},
		{"on the other side", standing(), gotOf(1, 1, impl.PlcRight, 1), nil, nil},
		{"it does not hold the cell", standingWith(without(1)), left(4), nil, nil},
		{"it is down", standingWith(down), left(4), nil, nil},
		{"an earlier age", standingWith(storeAge(6)), left(4), lost, nil},
		{"an earlier age, none", standingWith(storeAge(6)), left(1), lost, nil},
		{"a later age", standingWith(storeAge(1)), left(4), lost, nil},
		{"fewer records read", standingWith(oneMoreRecord), left(4), nil, nil},
		{"the log is full", standingWith(fullLog), left(4), nil, nil},
		{"nobody has any cell", standingWith(nobodyHas(0), nobodyHas(1), nobodyHas(2)), left(4), acked(4), nil},
	})
}

func TestP23P27GrantsAreHeard(t *testing.T) {
	grant := func(age int) impl.MsgMsg { return grantOf(1, 1, age) }
	opened := func(age int) []hearingTurn {
		return []hearingTurn{without(1), func(h *hearing) {
			h.stores[1].Age = age
			state, _ := foldPlainly(h.m, h.stores[1].Base, h.stores[1].Recs)
			hold := impl.HldHolder{Age: age, Count: len(h.stores[1].Recs), State: state}
			h.server.Holds = slices.Insert(h.server.Holds, 0, hold)
		}}
	}
	away := func(h *hearing) { h.server.Holds[0].State = bareCell(1) }
	askCases(t, []hearCase{
		{"a later age", standing(), grant(6), opened(6), nil},
		{"the last age", standing(), grant(900), opened(900), nil},
		{"the same age", standing(), grant(5), nil, nil},
		{"an earlier age", standing(), grant(4), nil, nil},
		{"the first age", standing(), grant(1), nil, nil},
		{"the same age, fewer records read", standingWith(oneMoreRecord), grant(5), nil, nil},
		{"a later age, fewer records read", standingWith(oneMoreRecord), grant(6), opened(6), nil},
		{"a later age, another state", standingWith(away), grant(6), opened(6), nil},
		{"a later age, but the store's is later still", standingWith(storeAge(8)), grant(7), nil, nil},
		{"a later age, which is the store's", standingWith(storeAge(8)), grant(8), opened(8), nil},
		{"later than both", standingWith(storeAge(8)), grant(9), opened(9), nil},
		{"the same age, the store's is earlier", standingWith(storeAge(2)), grant(5), nil, nil},
		{"earlier, the store's is earlier still", standingWith(storeAge(2)), grant(4), nil, nil},
		{"it does not hold the cell", standingWith(without(1)), grant(6), opened(6), nil},
		{"it does not hold the cell, the store's age", standingWith(without(1)), grant(5), opened(5), nil},
		{"it does not hold the cell, an earlier one", standingWith(without(1)), grant(4), nil, nil},
		{"it holds none", standingWith(without(1), without(2)), grant(6), opened(6), nil},
		{"the first age of a new store", standingWith(without(1), storeAge(0)), grant(1), opened(1), nil},
		{"the last age of a new store", standingWith(without(1), storeAge(0)), grant(900), opened(900), nil},
		{"the last age once more", standingWith(storeAge(900), holdAge(900)), grant(900), nil, nil},
		{"it is down", standingWith(down), grant(6), nil, nil},
		{"the log is full", standingWith(fullLog), grant(6), opened(6), nil},
		{"the table knows nothing of it", standingWith(nobodyHas(1)), grant(6), opened(6), nil},
	})
}

// Each cell comes to its place among the holds, whatever the order in which they are granted.
func TestP22P27GrantsComeToTheirPlaces(t *testing.T) {
	m := impl.PlcMap{Cells: 4, Width: 3}
	for _, order := range [][]int{{0, 1, 2, 3}, {3, 2, 1, 0}, {2, 0, 3, 1}, {1, 3, 0, 2}} {
		h := hearing{m: m, server: impl.SrvNew(), table: impl.ArbNew(m), servers: 1}
		for cell := range m.Cells {
			h.stores = append(h.stores, impl.StoNew(m, cell, nil))
		}
		for i, cell := range order {
			for _, age := range []int{2, 1, 3} {
				h = h.behind(askHear(t, h, grantOf(0, cell, age)))
			}
			var cells []int
			for _, hold := range h.server.Holds {
				cells = append(cells, hold.State.Cell)
			}
			want := slices.Sorted(slices.Values(order[:i+1]))
			if !slices.Equal(cells, want) || h.stores[cell].Age != 3 {
				t.Errorf("behind the grants of %v the holds are on %v", order[:i+1], cells)
			}
		}
	}
}

func TestP22P25GhostsAreHeard(t *testing.T) {
	ghost := func(from, count, id, at, coins int) impl.GstGhost {
		return impl.GstGhost{From: from, Count: count, Walker: impl.WlkWalker{Id: id, At: at, Coins: coins}}
	}
	show := func(side int, g impl.GstGhost) impl.MsgMsg { return showOf(1, 1, side, g) }
	kept := func(list ...impl.GstGhost) []hearingTurn {
		return []hearingTurn{func(h *hearing) { h.server.Ghosts = list }}
	}
	first, second := standing().server.Ghosts[0], standing().server.Ghosts[1]
	none := func(h *hearing) { h.server.Ghosts = nil }
	askCases(t, []hearCase{
		{"a later one", standing(), show(0, ghost(0, 5, 5, 3, 1)), kept(ghost(0, 5, 5, 3, 1), second), nil},
		{"an earlier one", standing(), show(0, ghost(0, 3, 5, 3, 1)), nil, nil},
		{"of the same Count", standing(), show(0, ghost(0, 4, 5, 3, 1)), nil, nil},
		{"of another walker", standing(), show(0, ghost(0, 0, 4, 3, 1)), kept(ghost(0, 0, 4, 3, 1), first, second), nil},
		{"of that walker from the other side", standing(), show(1, ghost(2, 0, 5, 8, 1)), kept(first, ghost(2, 0, 5, 8, 1), second), nil},
		{"the first one", standingWith(none), show(1, second), kept(second), nil},
		{"it does not hold the cell", standingWith(without(1)), show(0, ghost(0, 5, 5, 3, 1)), kept(ghost(0, 5, 5, 3, 1), second), nil},
		{"it holds none", standingWith(without(1), without(2)), show(0, ghost(0, 5, 5, 3, 1)), kept(ghost(0, 5, 5, 3, 1), second), nil},
		{"an earlier age", standingWith(storeAge(6)), show(0, ghost(0, 5, 5, 3, 1)), kept(ghost(0, 5, 5, 3, 1), second), nil},
		{"it is down", standingWith(down), show(0, ghost(0, 5, 5, 3, 1)), nil, nil},
	})
}

// So many ghosts are kept, and no others beside them; a later one of those still is.
func TestP22GhostsUpToTheLastPlace(t *testing.T) {
	h := standingWith(func(h *hearing) { h.server.Ghosts = tooManyGhosts()[:20] })
	last := tooManyGhosts()[20]
	if got := askHear(t, h, showOf(0, 1, impl.PlcRight, last)); !got.same(h.asIs()) {
		t.Errorf("one too many is kept: %+v", got.server.Ghosts)
	}
	later := h.server.Ghosts[19]
	later.Count++
	if got := askHear(t, h, showOf(0, 1, impl.PlcRight, later)); len(got.server.Ghosts) != 20 || got.server.Ghosts[19] != later {
		t.Errorf("a later one is not kept: %+v", got.server.Ghosts)
	}
}

// What is for the gateway is for no server, whoever hears it, and To is not asked for.
func TestP24MessagesForTheGatewayAndForOthers(t *testing.T) {
	o := impl.OrdOrder{Who: 1, Seq: 4, Kind: impl.OrdRest}
	for _, h := range []hearing{standing(), standingWith(without(1)), standingWith(down), standingWith(storeAge(6))} {
		for code := 1; code <= 9; code++ {
			if got := askHear(t, h, toldOf(1, o, code)); !got.same(h.asIs()) {
				t.Errorf("what was told turns %+v", got)
			}
		}
		if got := askHear(t, h, awayOf(1, o)); !got.same(h.asIs()) {
			t.Errorf("who is away turns %+v", got)
		}
	}
	for servers := 2; servers <= 3; servers++ {
		h := standingWith(func(h *hearing) { h.servers = servers })
		for _, good := range messagesHeard() {
			first := h.hear(good)
			for to := range servers {
				if got := askHear(t, h, turnedMessage(good, func(x *impl.MsgMsg) { x.To = to })); !got.same(first) {
					t.Errorf("for the server %d %+v is %+v", to, good, got)
				}
			}
		}
	}
}

// messagesHeard is messages of which standing makes something, one of each Kind that servers hear.
func messagesHeard() []impl.MsgMsg {
	return []impl.MsgMsg{
		grantOf(0, 1, 6),
		askOf(0, 1, impl.OrdOrder{Who: 1, Seq: 4, Kind: impl.OrdRest}),
		parcelOf(0, 1, impl.PlcLeft, impl.PclParcel{N: 1, Kind: impl.PclCoins, Coins: 3}),
		gotOf(0, 1, impl.PlcLeft, 4),
		showOf(0, 1, impl.PlcLeft, impl.GstGhost{From: 0, Count: 5, Walker: impl.WlkWalker{Id: 5, At: 3}}),
	}
}

func TestP23MessagesHeardTurnSomething(t *testing.T) {
	for _, x := range messagesHeard() {
		h := standing()
		if got := askHear(t, h, x); sameServer(got.server, h.server) {
			t.Errorf("%+v turns nothing", x)
		}
		if got := askHear(t, standingWith(down), x); !got.same(standingWith(down).asIs()) {
			t.Errorf("%+v turns a server that is down: %+v", x, got)
		}
	}
}

// A cell at the end of the map, and one and three servers.
func TestP22P28AtTheEndsOfTheMap(t *testing.T) {
	for _, m := range okMaps() {
		for servers := 1; servers <= 3; servers++ {
			h := hearing{m: m, server: impl.SrvNew(), table: impl.ArbNew(m), servers: servers}
			for cell := range m.Cells {
				list := []impl.WlkWalker{{Id: 1, At: 0, Coins: 9}, {Id: 2, At: m.Cells*m.Width - 1, Coins: 9}}
				h.stores = append(h.stores, impl.StoNew(m, cell, list))
				h.table, _ = impl.ArbGrant(m, h.table, servers, cell, servers-1)
			}
			last := m.Cells - 1
			for cell, who := range map[int]int{0: 1, last: 2} {
				h = h.behind(askHear(t, h, grantOf(servers-1, cell, 1)))
				out := impl.OrdOrder{Who: who, Seq: 1, Kind: impl.OrdStep, To: who - 1}
				got := askHear(t, h, askOf(servers-1, cell, out))
				if !slices.Equal(got.said, []impl.MsgMsg{toldOf(cell, out, impl.CodeWall)}) {
					t.Errorf("%s: a step out of the map is told %+v", strconv.Itoa(cell), got.said)
				}
				if said := h.tick(cell); len(said) != 0 {
					t.Errorf("of the cell %d it says %+v", cell, said)
				}
			}
		}
	}
}
