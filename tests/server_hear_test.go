package tests

import (
	"math/rand"
	"slices"
	"testing"

	"loop.example/landmarch/impl"
)

// askHear asks that a server hears a message, all of it ok, as the words say, and what the promises say of it.
func askHear(t *testing.T, h hearing, x impl.MsgMsg) heard {
	t.Helper()
	got, want := h.hear(x), hearPlainly(h, x)
	if !got.same(want) {
		t.Fatalf("SrvHear of %+v, by %+v, is\n%+v, not\n%+v", x, h, got, want)
	}
	askStillOk(t, h, x, got)
	askOneRecord(t, h, x, got)
	askNotItsCell(t, h, x, got)
	askTwice(t, h, x, got)
	askToldWasWritten(t, h, x, got)
	if x.Kind == impl.MsgGrant {
		askGranted(t, h, x, got)
	}
	return got
}

// askStillOk asks for P22.
func askStillOk(t *testing.T, h hearing, x impl.MsgMsg, got heard) {
	t.Helper()
	ok := impl.SrvOk(h.m, got.server) && len(got.stores) == h.m.Cells && got.server.Up == h.server.Up
	for cell, s := range got.stores {
		ok = ok && s.Base.Cell == cell && impl.StoOk(h.m, s)
	}
	if !ok || len(got.said) > 1 {
		t.Fatalf("behind %+v, heard by %+v, there is %+v", x, h, got)
	}
	for _, word := range got.said {
		if !impl.MsgOk(h.m, h.servers, word) {
			t.Fatalf("behind %+v, heard by %+v, it says %+v", x, h, word)
		}
	}
}

// askOneRecord asks for P23.
func askOneRecord(t *testing.T, h hearing, x impl.MsgMsg, got heard) {
	t.Helper()
	for cell, after := range got.stores {
		before := h.stores[cell]
		if cell != x.Cell && !sameStore(after, before) {
			t.Fatalf("behind %+v, heard by %+v, the store of the cell %d is %+v", x, h, cell, after)
		}
		count := len(before.Recs)
		if len(after.Recs) < count || len(after.Recs) > count+1 || !slices.Equal(after.Recs[:count], before.Recs) || !sameCell(after.Base, before.Base) {
			t.Fatalf("behind %+v, heard by %+v, the log of the cell %d is %+v", x, h, cell, after)
		}
		if after.Age < before.Age || after.Age != before.Age && x.Kind != impl.MsgGrant {
			t.Fatalf("behind %+v, heard by %+v, the age of the cell %d is %d", x, h, cell, after.Age)
		}
	}
}

// askNotItsCell asks for P24.
func askNotItsCell(t *testing.T, h hearing, x impl.MsgMsg, got heard) {
	t.Helper()
	_, held := impl.SrvHold(h.server, x.Cell)
	needsHold := x.Kind == impl.MsgAsk || x.Kind == impl.MsgParcel || x.Kind == impl.MsgGot
	if needsHold && (!h.server.Up || !held) && !got.same(h.asIs()) {
		t.Fatalf("%+v, heard by %+v, turns it: %+v", x, h, got)
	}
}

// askTwice asks for P25.
func askTwice(t *testing.T, h hearing, x impl.MsgMsg, got heard) {
	t.Helper()
	again := h.behind(got).hear(x)
	if !sameServer(again.server, got.server) || !sameStores(again.stores, got.stores) {
		t.Fatalf("%+v, heard twice by %+v, leaves %+v, not %+v", x, h, again, got)
	}
	if len(got.said) == 0 || got.said[0].Kind != impl.MsgTold {
		return
	}
	if !slices.Equal(again.said, got.said) && !slices.Equal(again.said, []impl.MsgMsg{awayOf(x.Cell, x.Order)}) {
		t.Fatalf("%+v was told %+v, and then %+v", x, got.said, again.said)
	}
}

// askToldWasWritten asks for P26, and that what is told is what came of the order.
func askToldWasWritten(t *testing.T, h hearing, x impl.MsgMsg, got heard) {
	t.Helper()
	if len(got.said) == 0 || got.said[0].Kind != impl.MsgTold {
		return
	}
	told := got.said[0]
	hold, _ := impl.SrvHold(h.server, x.Cell)
	w, _ := impl.WlkFind(hold.State.Walkers, x.Order.Who)
	recs := got.stores[x.Cell].Recs
	if len(recs) == len(h.stores[x.Cell].Recs)+1 {
		_, code := impl.CllDo(h.m, hold.State, x.Order)
		if recs[len(recs)-1] != didOf(x.Order) || told != toldOf(x.Cell, x.Order, code) {
			t.Fatalf("%+v was told %+v behind %+v", x, told, recs)
		}
		return
	}
	if w.Seq != x.Order.Seq || told != toldOf(x.Cell, x.Order, w.Last) {
		t.Fatalf("%+v was told %+v, and the walker was %+v", x, told, w)
	}
}

// askGranted asks for P27.
func askGranted(t *testing.T, h hearing, x impl.MsgMsg, got heard) {
	t.Helper()
	had, held := impl.SrvHold(h.server, x.Cell)
	if len(got.said) > 0 {
		t.Fatalf("behind %+v, heard by %+v, it says %+v", x, h, got.said)
	}
	if !h.server.Up || held && had.Age >= x.N || h.stores[x.Cell].Age > x.N {
		if !got.same(h.asIs()) {
			t.Fatalf("%+v, heard by %+v, turns it: %+v", x, h, got)
		}
		return
	}
	hold, held := impl.SrvHold(got.server, x.Cell)
	store := got.stores[x.Cell]
	if !held || hold.Age != x.N || store.Age != x.N || hold.Count != len(store.Recs) || !sameCell(hold.State, impl.StoState(h.m, store)) {
		t.Fatalf("behind %+v, heard by %+v, the hold is %+v, %v", x, h, hold, held)
	}
	if store.Age = h.stores[x.Cell].Age; !sameStore(store, h.stores[x.Cell]) || !slices.Equal(got.server.Ghosts, h.server.Ghosts) {
		t.Fatalf("behind %+v, heard by %+v, there is %+v", x, h, got)
	}
	for cell := range h.m.Cells {
		before, heldBefore := holdOf(h.server, cell)
		after, heldAfter := holdOf(got.server, cell)
		if cell != x.Cell && (heldBefore != heldAfter || !sameHold(before, after)) {
			t.Fatalf("behind %+v, heard by %+v, the hold on %d is %+v", x, h, cell, after)
		}
	}
}

func TestP22P23P24P25P26P27ServersHear(t *testing.T) {
	type outcome struct{ kind, said, turned int }
	outcomes := map[outcome]int{}
	eachHearing(t, 281, 60, 8, func(r *rand.Rand, h hearing) {
		messages := messagesAround(r, h)
		for _, i := range r.Perm(len(messages))[:min(60, len(messages))] {
			x := messages[i]
			got := askHear(t, h, x)
			o := outcome{kind: x.Kind}
			if len(got.said) > 0 {
				o.said = got.said[0].Kind
			}
			if !got.same(heard{server: h.server, stores: h.stores, said: got.said}) {
				o.turned = 1
			}
			outcomes[o]++
		}
	})
	for _, o := range []outcome{
		{impl.MsgGrant, 0, 0}, {impl.MsgGrant, 0, 1},
		{impl.MsgAsk, 0, 0}, {impl.MsgAsk, 0, 1}, {impl.MsgAsk, impl.MsgTold, 0}, {impl.MsgAsk, impl.MsgTold, 1}, {impl.MsgAsk, impl.MsgAway, 0},
		{impl.MsgTold, 0, 0}, {impl.MsgAway, 0, 0},
		{impl.MsgParcel, 0, 0}, {impl.MsgParcel, 0, 1}, {impl.MsgParcel, impl.MsgGot, 0}, {impl.MsgParcel, impl.MsgGot, 1},
		{impl.MsgGot, 0, 0}, {impl.MsgGot, 0, 1},
		{impl.MsgGhost, 0, 0}, {impl.MsgGhost, 0, 1},
	} {
		if outcomes[o] < 40 {
			t.Errorf("so many of each: %v", outcomes)
		}
		delete(outcomes, o)
	}
	if len(outcomes) > 0 {
		t.Errorf("and so many of others: %v", outcomes)
	}
}

// Message behind message from new servers on, while cells go from server to server.
func TestP23P25P26ServersHearOneBehindTheOther(t *testing.T) {
	r := rand.New(rand.NewSource(282))
	for range 12 {
		m := ghostMaps[r.Intn(3)]
		list := okWalkers(m, r.Int63())[511]
		for i := range list {
			list[i].Seq = 0
		}
		h := hearing{m: m, table: impl.ArbNew(m), servers: 3}
		for cell := range m.Cells {
			h.stores = append(h.stores, impl.StoNew(m, cell, list))
		}
		all := []impl.SrvServer{impl.SrvNew(), impl.SrvNew(), impl.SrvNew()}
		for range 150 {
			to := r.Intn(3)
			if cell := r.Intn(m.Cells); r.Intn(12) == 0 || h.table.Ages[cell] == 0 {
				h.table, _ = impl.ArbGrant(m, h.table, 3, cell, to)
				h.server = all[to]
				got := askHear(t, h, grantOf(to, cell, h.table.Ages[cell]))
				h, all[to] = h.behind(got), got.server
			}
			h.server = all[to]
			messages := messagesAround(r, h)
			x := messages[r.Intn(len(messages))]
			// Nobody but the table gives ages, and nobody shows what was not so.
			if x.Kind == impl.MsgGrant || x.Kind == impl.MsgGhost {
				continue
			}
			got := askHear(t, h, x)
			h, all[to] = h.behind(got), got.server
		}
		askOneHolder(t, h, all)
	}
}

// askOneHolder asks that of each cell one server at most has a hold of the store's age, which has read all of it.
func askOneHolder(t *testing.T, h hearing, all []impl.SrvServer) {
	t.Helper()
	for cell, store := range h.stores {
		holders := 0
		for _, s := range all {
			hold, held := impl.SrvHold(s, cell)
			if !held || hold.Age != store.Age {
				continue
			}
			holders++
			if hold.Count != len(store.Recs) || !sameCell(hold.State, impl.StoState(h.m, store)) {
				t.Fatalf("the hold on %d is %+v, the store %+v", cell, hold, store)
			}
		}
		if holders > 1 {
			t.Fatalf("%d servers hold the cell %d in its age", holders, cell)
		}
	}
}
