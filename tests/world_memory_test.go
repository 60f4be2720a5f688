package tests

import (
	"math/rand"
	"runtime"
	"slices"
	"testing"
	"time"

	"loop.example/landmarch/impl"
)

// spareNote and spareServer are what lies in spare room and in memory that is written over: no two alike, and none of them ok.
func spareNote(i int) impl.WldNote {
	return impl.WldNote{Who: 70 + i, Seq: -89, Code: -90}
}

func spareServer(i int) impl.SrvServer {
	return impl.SrvServer{Holds: []impl.HldHolder{spareHold(i)}, Ghosts: []impl.GstGhost{spareGhost(i)}}
}

// worldMemory is all memory of a world, spare room included: that of each server, and that of stores, table, messages, rows and notes.
type worldMemory struct {
	servers []impl.SrvServer
	each    []heardMemory
	rest    heardMemory
	rows    []impl.GwyRow
	notes   []impl.WldNote
}

// worldMemoryOf is the memory as it lies there.
func worldMemoryOf(w impl.WldWorld) worldMemory {
	memory := worldMemory{
		servers: whole(w.Servers),
		rest:    heardMemoryOf(heard{stores: w.Stores, said: w.Net}, w.Table),
		rows:    whole(w.Book.Rows),
		notes:   whole(w.Notes),
	}
	for _, s := range memory.servers {
		memory.each = append(memory.each, heardMemoryOf(heard{server: s}, impl.ArbTable{}))
	}
	return memory
}

// copied is the same in new memory.
func (memory worldMemory) copied() worldMemory {
	own := worldMemory{
		rest:  memory.rest.copied(),
		rows:  append([]impl.GwyRow{}, memory.rows...),
		notes: append([]impl.WldNote{}, memory.notes...),
	}
	for i, s := range memory.servers {
		own.servers = append(own.servers, cloneServer(s))
		own.each = append(own.each, memory.each[i].copied())
	}
	return own
}

// same holds what lies in memory against each other; sameLists leaves out what stands in the servers, holds and stores themselves.
func (memory worldMemory) same(other worldMemory) bool {
	return slices.EqualFunc(memory.servers, other.servers, sameServer) &&
		slices.EqualFunc(memory.each, other.each, heardMemory.same) &&
		memory.rest.same(other.rest) &&
		slices.Equal(memory.rows, other.rows) && slices.Equal(memory.notes, other.notes)
}

func (memory worldMemory) sameLists(other worldMemory) bool {
	return slices.EqualFunc(memory.each, other.each, heardMemory.sameLists) &&
		memory.rest.sameLists(other.rest) &&
		slices.Equal(memory.rows, other.rows) && slices.Equal(memory.notes, other.notes)
}

// writers is what writes over each list of a memory by itself, with things of which no two are alike.
func (memory worldMemory) writers(seed int) []func() {
	writers := memory.rest.writers(seed)
	for i, part := range memory.each {
		writers = append(writers, part.writers(seed+100000*(i+1))...)
	}
	return append(writers,
		func() { fill(memory.rows, seed+50000, spareRow) },
		func() { fill(memory.notes, seed+60000, spareNote) },
	)
}

// writeOverAll writes over all of a memory: its lists, and what the servers, holds and stores themselves are.
func (memory worldMemory) writeOverAll(seed int) {
	for _, write := range memory.writers(seed) {
		write()
	}
	for _, part := range append(memory.each, memory.rest) {
		for _, hold := range part.holds {
			writeOver(hold.State.Outs, nil)
		}
		for _, store := range part.stores {
			writeOver(store.Base.Outs, nil)
		}
		fill(part.holds, seed, spareHold)
		fill(part.stores, seed, spareStore)
	}
	fill(memory.servers, seed, spareServer)
}

// worldWithRoom is the same world, with spare room behind the end of each list that is not nothing.
func worldWithRoom(w impl.WldWorld) impl.WldWorld {
	rest := hearing{stores: w.Stores, table: w.Table}.withRoomEverywhere()
	own := impl.WldWorld{Map: w.Map, Stores: rest.stores, Table: rest.table}
	for _, s := range w.Servers {
		own.Servers = append(own.Servers, hearing{server: s}.withRoomEverywhere().server)
	}
	own.Servers, _ = withRoom(own.Servers, spareServer)
	own.Book.Rows, _ = withRoom(w.Book.Rows, spareRow)
	own.Net, _ = withRoom(w.Net, spareMessage)
	own.Notes, _ = withRoom(w.Notes, spareNote)
	return own
}

// askWorldMemory asks that a call neither writes into its world, spare room included, nor answers memory of it or of another answer, and that no two lists of its answer share any.
func askWorldMemory(t *testing.T, name string, w impl.WldWorld, call func(impl.WldWorld) impl.WldWorld) {
	t.Helper()
	given := worldWithRoom(w)
	memory := worldMemoryOf(given)
	before := memory.copied()
	got, again := call(given), call(given)
	if !memory.same(before) || !sameWorld(given, w) {
		t.Fatalf("%s of %+v wrote into its argument or behind its end", name, w)
	}
	if plain := call(w); !sameWorld(got, plain) || !sameWorld(again, plain) {
		t.Fatalf("%s of %+v hangs on spare room", name, w)
	}
	answer := worldMemoryOf(got)
	kept := answer.copied()
	memory.writeOverAll(1000000)
	worldMemoryOf(again).writeOverAll(2000000)
	if !worldMemoryOf(got).same(kept) {
		t.Fatalf("%s of %+v: the answer turned with the argument, or with another answer", name, w)
	}
	// A list that shares memory with one that was written ahead of it turns that one back; both are held against what they are in memory that is apart.
	wanted := kept.writers(3000000)
	for i, write := range answer.writers(3000000) {
		write()
		wanted[i]()
	}
	if !answer.sameLists(kept) {
		t.Fatalf("%s of %+v: two lists of the answer share memory", name, w)
	}
	all := heard{stores: got.Stores}
	for _, s := range got.Servers {
		all.server.Holds = append(all.server.Holds, s.Holds...)
	}
	askOutsApart(t, name, all)
	askServersApart(t, name, got)
}

// askServersApart asks that no two servers of an answer have their holds in one list.
func askServersApart(t *testing.T, name string, got impl.WldWorld) {
	t.Helper()
	for i, s := range got.Servers {
		fill(whole(s.Holds), 100*i, func(n int) impl.HldHolder { return impl.HldHolder{Age: -n} })
	}
	for i, s := range got.Servers {
		for j, h := range whole(s.Holds) {
			if h.Age != -100*i-j {
				t.Fatalf("%s: two servers of the answer have one list of holds", name)
			}
		}
	}
}

func TestWorldsMemoryOfSteps(t *testing.T) {
	ask := func(w impl.WldWorld, e impl.WldEvent) {
		t.Helper()
		askWorldMemory(t, "WldStep", w, func(w impl.WldWorld) impl.WldWorld { return impl.WldStep(w, e) })
	}
	eachWorld(t, 361, 5, 5, func(r *rand.Rand, w impl.WldWorld) {
		events := eventsAround(r, w)
		for _, i := range r.Perm(len(events))[:min(40, len(events))] {
			ask(w, events[i])
		}
	})
	for _, e := range append(someEvents(), asks(impl.OrdOrder{Who: 5, Kind: 6}), grants(0, 1)) {
		for _, w := range []impl.WldWorld{
			standingWorld(), worldWith(netOf(39)), worldWith(netOf(40)), worldWith(serverDown(0), serverDown(1)), worldWith(notesOf(150)),
			tickingWorld(6), impl.WldNew(messagesMap, nil, 1), worldWith(netOf(41)), worldWith(notesOf(151)), {},
		} {
			ask(w, e)
		}
	}
}

// The calls that answer no world leave theirs as it is, and so do all of one that is not ok.
func TestWorldsMemoryOfQuestions(t *testing.T) {
	ask := func(w impl.WldWorld) {
		t.Helper()
		askWorldMemory(t, "asking", w, func(w impl.WldWorld) impl.WldWorld {
			impl.WldOk(w)
			impl.WldCount(w, 3, 1)
			return impl.WldStep(impl.WldWorld{}, brings(0))
		})
	}
	eachWorld(t, 362, 10, 5, func(_ *rand.Rand, w impl.WldWorld) { ask(w) })
	for _, bad := range []worldTurn{
		netOf(41), notesOf(151),
		func(w *impl.WldWorld) { w.Stores = w.Stores[:2] },
		func(w *impl.WldWorld) { w.Servers = w.Servers[:1] },
		func(w *impl.WldWorld) { w.Table.Ages = w.Table.Ages[:2] },
		func(w *impl.WldWorld) { w.Map.Cells = 4 },
		func(w *impl.WldWorld) { slices.Reverse(w.Book.Rows) },
		func(w *impl.WldWorld) { slices.Reverse(w.Servers[1].Holds) },
	} {
		ask(worldWith(bad))
	}
}

// The walkers of a new world are not written into, spare room included, and the world is no memory of them or of another one.
func TestWorldsMemoryOfNewOnes(t *testing.T) {
	for i, list := range append(okWalkers(messagesMap, 363), anyWalkers(364, 60)...) {
		if i%9 != 0 {
			continue
		}
		for servers := range 5 {
			short, room := withRoom(list, spareWalker)
			before := slices.Clone(room)
			got := impl.WldNew(messagesMap, short, servers)
			kept := cloneWorld(got)
			if !slices.Equal(room, before) || !sameWorld(got, impl.WldNew(messagesMap, list, servers)) {
				t.Fatalf("WldNew of %v writes into its argument, or hangs on spare room", list)
			}
			fill(room, 5, spareWalker)
			if !sameWorld(got, kept) {
				t.Fatalf("WldNew of %v is memory of its argument", list)
			}
			askWorldMemory(t, "WldNew", impl.WldWorld{}, func(impl.WldWorld) impl.WldWorld { return impl.WldNew(messagesMap, list, servers) })
		}
	}
}

// One piece of memory in several parts of a world is answered in memory of each part's own.
func TestWorldsMemoryOfOnePieceInAll(t *testing.T) {
	for _, e := range append(someEvents(), asks(impl.OrdOrder{Who: 5, Kind: 6}), grants(0, 1)) {
		w := standingWorld()
		one := cellWithRoom(w.Stores[1].Base)
		w.Stores[1] = impl.StoStore{Age: 5, Base: one}
		w.Servers[1].Holds[0] = impl.HldHolder{Age: 5, State: one}
		w.Servers[0] = w.Servers[1]
		w.Table.Servers = []int{1, 1, 1}
		w.Table.Ages = w.Table.Servers
		w.Stores[0].Age, w.Stores[2].Age, w.Stores[1].Age = 1, 1, 1
		w.Servers[1].Holds[0].Age, w.Servers[1].Holds[1].Age = 1, 1
		w.Net[0].N = 1
		if !worldOkPlainly(w) {
			t.Fatalf("the test's own %+v is not ok", w)
		}
		got := askStep(t, w, e)
		kept := worldMemoryOf(got).copied()
		for _, write := range memoryOf(one).writers(1) {
			write()
		}
		fill(w.Table.Ages, 1, func(i int) int { return -i })
		fill(w.Servers[0].Holds, 1, spareHold)
		fill(w.Servers[0].Ghosts, 1, spareGhost)
		if !worldMemoryOf(got).same(kept) {
			t.Errorf("%+v: the answer turned with the world", e)
		}
		answer, wanted := worldMemoryOf(got).writers(400000), kept.writers(400000)
		for i, write := range answer {
			write()
			wanted[i]()
		}
		if !worldMemoryOf(got).sameLists(kept) {
			t.Errorf("%+v: two lists of the answer share memory", e)
		}
	}
}

// No goroutine is left behind a step.
func TestWorldsLeaveNoGoroutine(t *testing.T) {
	before := runtime.NumGoroutine()
	for range 50 {
		for _, w := range []impl.WldWorld{standingWorld(), worldWith(serverDown(1)), worldWith(netOf(40)), worldWith(netOf(41))} {
			for _, e := range someEvents() {
				impl.WldStep(w, e)
			}
		}
	}
	// One that has said its last word may still be on its way out.
	for range 200 {
		if runtime.NumGoroutine() <= before {
			return
		}
		time.Sleep(10 * time.Millisecond)
	}
	t.Errorf("there were %d goroutines, and there are %d", before, runtime.NumGoroutine())
}

// What happens in one world at the same time is what happens alone, and none of it writes what another one reads.
func TestWorldsTurnAtTheSameTime(t *testing.T) {
	w := worldWithRoom(standingWorld())
	events := someEvents()
	want := make([]impl.WldWorld, len(events))
	for i, e := range events {
		want[i] = impl.WldStep(w, e)
	}
	answers := make(chan bool)
	for range 8 {
		go func() {
			same := true
			for range 10 {
				for i, e := range events {
					same = same && sameWorld(impl.WldStep(w, e), want[i])
				}
			}
			answers <- same
		}()
	}
	for range 8 {
		if !<-answers {
			t.Errorf("at the same time an answer is another one")
		}
	}
}
