package tests

import (
	"math/rand"
	"runtime"
	"slices"
	"testing"
	"time"

	"loop.example/landmarch/impl"
)

// spareMessage, spareHold and spareStore are what lies in spare room and in memory that is written over: no two alike, and none of them ok.
func spareMessage(i int) impl.MsgMsg {
	return impl.MsgMsg{Kind: 70 + i, To: -79, Cell: -80, Order: impl.OrdOrder{Who: -81}, Parcel: spareParcel(i), Ghost: spareGhost(i)}
}

func spareHold(i int) impl.HldHolder {
	return impl.HldHolder{Age: -70 - i, Count: -82, State: cellWithRoom(bareCell(-83 - i))}
}

func spareStore(i int) impl.StoStore {
	return storeWithRoom(impl.StoStore{Age: -70 - i, Base: bareCell(-84 - i), Recs: []impl.LogRec{spareRecord(i)}})
}

// heardMemory is all memory of a server, stores, a table and messages, spare room included.
type heardMemory struct {
	holds    []impl.HldHolder
	states   []cellMemory
	ghosts   []impl.GstGhost
	stores   []impl.StoStore
	logs     []storeMemory
	servers  []int
	ages     []int
	messages []impl.MsgMsg
}

// heardMemoryOf is the memory as it lies there.
func heardMemoryOf(a heard, table impl.ArbTable) heardMemory {
	memory := heardMemory{
		holds:    whole(a.server.Holds),
		ghosts:   whole(a.server.Ghosts),
		stores:   whole(a.stores),
		servers:  whole(table.Servers),
		ages:     whole(table.Ages),
		messages: whole(a.said),
	}
	for _, hold := range memory.holds {
		memory.states = append(memory.states, memoryOf(hold.State))
	}
	for _, store := range memory.stores {
		memory.logs = append(memory.logs, storeMemoryOf(store))
	}
	return memory
}

// copied is the same in new memory.
func (memory heardMemory) copied() heardMemory {
	own := heardMemory{
		ghosts:   append([]impl.GstGhost{}, memory.ghosts...),
		servers:  append([]int{}, memory.servers...),
		ages:     append([]int{}, memory.ages...),
		messages: append([]impl.MsgMsg{}, memory.messages...),
	}
	for i, hold := range memory.holds {
		own.holds = append(own.holds, cloneHold(hold))
		own.states = append(own.states, memory.states[i].copied())
	}
	for i, store := range memory.stores {
		own.stores = append(own.stores, cloneStore(store))
		own.logs = append(own.logs, memory.logs[i].copied())
	}
	return own
}

// same holds what lies in memory against each other; sameLists leaves out what stands in the holds and stores themselves.
func (memory heardMemory) same(other heardMemory) bool {
	return memory.sameLists(other) &&
		slices.EqualFunc(memory.holds, other.holds, sameHold) &&
		slices.EqualFunc(memory.stores, other.stores, sameStore)
}

func (memory heardMemory) sameLists(other heardMemory) bool {
	return slices.EqualFunc(memory.states, other.states, cellMemory.same) &&
		slices.EqualFunc(memory.logs, other.logs, storeMemory.same) &&
		slices.Equal(memory.ghosts, other.ghosts) &&
		slices.Equal(memory.servers, other.servers) && slices.Equal(memory.ages, other.ages) &&
		slices.Equal(memory.messages, other.messages)
}

// writers is what writes over each list of a memory by itself, with things of which no two are alike.
func (memory heardMemory) writers(seed int) []func() {
	var writers []func()
	for i, state := range memory.states {
		writers = append(writers, state.writers(seed+1000*i)...)
	}
	for i, log := range memory.logs {
		writers = append(writers, log.writers(seed+10000+1000*i)...)
	}
	return append(writers,
		func() { fill(memory.ghosts, seed+20000, spareGhost) },
		func() { fill(memory.servers, seed+21000, func(i int) int { return -i }) },
		func() { fill(memory.ages, seed+22000, func(i int) int { return -i }) },
		func() { fill(memory.messages, seed+23000, spareMessage) },
	)
}

// fill writes over a list with things of which no two are alike.
func fill[T any](list []T, seed int, spare func(int) T) {
	for i := range list {
		list[i] = spare(seed + i)
	}
}

// withRoomEverywhere is the same, with spare room behind the end of each list that is not nothing.
func (h hearing) withRoomEverywhere() hearing {
	own := h
	own.server.Holds, own.stores = nil, nil
	for _, hold := range h.server.Holds {
		hold.State = cellWithRoom(hold.State)
		own.server.Holds = append(own.server.Holds, hold)
	}
	for _, store := range h.stores {
		own.stores = append(own.stores, storeWithRoom(store))
	}
	own.server.Holds, _ = withRoom(own.server.Holds, spareHold)
	own.stores, _ = withRoom(own.stores, spareStore)
	own.server.Ghosts, _ = withRoom(h.server.Ghosts, spareGhost)
	own.table.Servers, _ = withRoom(h.table.Servers, func(i int) int { return 7000 + i })
	own.table.Ages, _ = withRoom(h.table.Ages, func(i int) int { return 7000 + i })
	return own
}

// askHeardMemory asks that a call neither writes into what it is given, spare room included, nor answers memory of it or of another answer, and that no two lists of its answer share any: a hold's state and its cell's store among them.
func askHeardMemory(t *testing.T, name string, h hearing, call func(hearing) heard) {
	t.Helper()
	given := h.withRoomEverywhere()
	memory := heardMemoryOf(given.asIs(), given.table)
	before := memory.copied()
	got, again := call(given), call(given)
	if !memory.same(before) {
		t.Fatalf("%s of %+v wrote into its arguments or behind their ends", name, h)
	}
	if plain := call(h); !got.same(plain) || !again.same(plain) {
		t.Fatalf("%s of %+v hangs on spare room", name, h)
	}
	answer := heardMemoryOf(got, impl.ArbTable{})
	kept := answer.copied()
	for i, other := range []heardMemory{memory, heardMemoryOf(again, impl.ArbTable{})} {
		for _, write := range other.writers(100000 * (i + 1)) {
			write()
		}
		for _, hold := range other.holds {
			writeOver(hold.State.Outs, nil)
		}
		for _, store := range other.stores {
			writeOver(store.Base.Outs, nil)
		}
		fill(other.holds, 1, spareHold)
		fill(other.stores, 1, spareStore)
	}
	if !heardMemoryOf(got, impl.ArbTable{}).same(kept) {
		t.Fatalf("%s of %+v: the answer turned with an argument, or with another answer", name, h)
	}
	// A list that shares memory with one that was written ahead of it turns that one back.
	wanted := kept.writers(300000)
	for i, write := range answer.writers(300000) {
		write()
		wanted[i]()
		if !answer.sameLists(kept) {
			t.Fatalf("%s of %+v: two lists of the answer share memory", name, h)
		}
	}
	askOutsApart(t, name, got)
}

// askOutsApart asks that no two of an answer's cells have their parcels in one list of both sides.
func askOutsApart(t *testing.T, name string, got heard) {
	t.Helper()
	var all [][][]impl.PclParcel
	for _, hold := range whole(got.server.Holds) {
		all = append(all, whole(hold.State.Outs))
	}
	for _, store := range whole(got.stores) {
		all = append(all, whole(store.Base.Outs))
	}
	for i, outs := range all {
		for side := range outs {
			outs[side] = []impl.PclParcel{spareParcel(1000*i + side)}
		}
	}
	for i, outs := range all {
		for side := range outs {
			if outs[side][0] != spareParcel(1000*i+side) {
				t.Fatalf("%s: two cells of the answer have one list of parcels", name)
			}
		}
	}
}

func TestServersMemoryOfHearing(t *testing.T) {
	eachHearing(t, 311, 12, 6, func(r *rand.Rand, h hearing) {
		messages := messagesAround(r, h)
		for _, i := range r.Perm(len(messages))[:min(40, len(messages))] {
			askHeardMemory(t, "SrvHear", h, func(h hearing) heard { return h.hear(messages[i]) })
		}
		askHeardMemory(t, "SrvHear of nothing", h, func(h hearing) heard { return h.hear(impl.MsgMsg{}) })
	})
	for _, x := range someMessages() {
		for _, turn := range []hearingTurn{
			func(*hearing) {}, down, without(1), storeAge(6), storeAge(4), oneMoreRecord, fullLog,
			func(h *hearing) { h.servers = 0 },
			func(h *hearing) { h.stores = h.stores[:2] },
			func(h *hearing) { slices.Reverse(h.server.Holds) },
		} {
			askHeardMemory(t, "SrvHear", standingWith(turn), func(h hearing) heard { return h.hear(x) })
		}
	}
}

func TestServersMemoryOfTelling(t *testing.T) {
	ask := func(h hearing) {
		for cell := -1; cell <= h.m.Cells; cell++ {
			askHeardMemory(t, "SrvTick", h, func(h hearing) heard { return heard{said: h.tick(cell)} })
			askHeardMemory(t, "SrvHold", h, func(h hearing) heard {
				impl.SrvOk(h.m, h.server)
				hold, ok := impl.SrvHold(h.server, cell)
				if !ok {
					return heard{}
				}
				return heard{server: impl.SrvServer{Holds: []impl.HldHolder{hold}}}
			})
		}
	}
	eachHearing(t, 312, 20, 6, func(r *rand.Rand, h hearing) { ask(h) })
	ask(teller([2]int{6, 5}, [2]int{4, 5}))
	ask(standing())
	for _, s := range wrongServers() {
		ask(standingWith(func(h *hearing) { h.server = s }))
	}
}

// One piece of memory in several parts of what is handed in is answered in memory of each part's own.
func TestServersMemoryOfOneCellInAll(t *testing.T) {
	for _, x := range someMessages() {
		h := standing()
		one := cellWithRoom(h.server.Holds[0].State)
		h.server.Holds[0] = impl.HldHolder{Age: 5, State: one}
		h.stores[1] = impl.StoStore{Age: 5, Base: one}
		h.table.Servers, h.table.Ages = []int{1, 1, 1}, []int{1, 1, 1}
		h.table.Ages = h.table.Servers
		got := askHear(t, h, x)
		kept := heard{server: cloneServer(got.server), stores: cloneStores(got.stores), said: slices.Clone(got.said)}
		for _, write := range memoryOf(one).writers(1) {
			write()
		}
		if !got.same(kept) {
			t.Errorf("%+v: the answer turned with the cell", x)
		}
		for _, hold := range got.server.Holds {
			for _, write := range memoryOf(hold.State).writers(1) {
				write()
			}
		}
		if !sameStores(got.stores, kept.stores) {
			t.Errorf("%+v: the stores turned with the holds", x)
		}
	}
}

// No goroutine is left behind a call: not behind one that hears something, nor behind one that hears nothing.
func TestServersLeaveNoGoroutine(t *testing.T) {
	before := runtime.NumGoroutine()
	for range 200 {
		for _, x := range append(someMessages(), impl.MsgMsg{}) {
			for _, h := range []hearing{standing(), standingWith(down), standingWith(storeAge(6)), standingWith(nobodyHas(0))} {
				h.hear(x)
				h.tick(1)
			}
		}
	}
	// One that has said its last word may still be on its way out.
	for range 200 {
		if runtime.NumGoroutine() <= before {
			return
		}
		time.Sleep(10 * time.Millisecond)
	}
	t.Errorf("there were %d goroutines, and there are %d", before, runtime.NumGoroutine())
}

// Servers that hear at the same time answer what they answer alone, and write nothing that another one reads.
func TestServersHearAtTheSameTime(t *testing.T) {
	h := standing().withRoomEverywhere()
	messages := someMessages()
	want := make([]heard, len(messages))
	for i, x := range messages {
		want[i] = h.hear(x)
	}
	answers := make(chan bool)
	for range 8 {
		go func() {
			same := true
			for range 20 {
				for i, x := range messages {
					same = same && h.hear(x).same(want[i])
				}
			}
			answers <- same
		}()
	}
	for range 8 {
		if !<-answers {
			t.Errorf("at the same time an answer is another one")
		}
	}
}
