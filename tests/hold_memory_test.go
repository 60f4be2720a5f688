package tests

import (
	"math/rand"
	"testing"

	"loop.example/landmarch/impl"
)

// heldStore is a hold and a store: what the calls of chapter 7 are given and answer.
type heldStore struct {
	hold  impl.HldHolder
	store impl.StoStore
}

// same holds both against those of another one.
func (b heldStore) same(other heldStore) bool {
	return sameHold(b.hold, other.hold) && sameStore(b.store, other.store)
}

// heldMemory is all memory of a hold and a store, spare room included.
type heldMemory struct {
	state cellMemory
	store storeMemory
}

// heldMemoryOf is the memory of both as it lies there.
func heldMemoryOf(b heldStore) heldMemory {
	return heldMemory{state: memoryOf(b.hold.State), store: storeMemoryOf(b.store)}
}

// copied is the same in new memory.
func (memory heldMemory) copied() heldMemory {
	return heldMemory{state: memory.state.copied(), store: memory.store.copied()}
}

// same holds what lies in memory against each other.
func (memory heldMemory) same(other heldMemory) bool {
	return memory.state.same(other.state) && memory.store.same(other.store)
}

// writers is what writes over each list of a memory by itself.
func (memory heldMemory) writers(seed int) []func() {
	return append(memory.state.writers(seed), memory.store.writers(seed+10000)...)
}

// askHeldMemory asks that a call neither writes into its hold and store, spare room included, nor answers memory of them or of another answer, and that no two lists of its answer share any: the hold's state and the store among them.
func askHeldMemory(t *testing.T, name string, b heldStore, call func(heldStore) heldStore) {
	t.Helper()
	given := heldStore{hold: b.hold, store: storeWithRoom(b.store)}
	given.hold.State = cellWithRoom(b.hold.State)
	before := heldMemoryOf(given).copied()
	got, again := call(given), call(given)
	if !heldMemoryOf(given).same(before) || !given.same(b) {
		t.Fatalf("%s of %+v wrote into its arguments or behind their ends", name, b)
	}
	if plain := call(b); !got.same(plain) || !again.same(plain) {
		t.Fatalf("%s of %+v hangs on spare room", name, b)
	}
	kept := heldMemoryOf(got).copied()
	for _, other := range []heldStore{given, again} {
		for _, write := range heldMemoryOf(other).writers(30000) {
			write()
		}
		writeOver(other.hold.State.Outs, nil)
		writeOver(other.store.Base.Outs, nil)
	}
	if !heldMemoryOf(got).same(kept) {
		t.Fatalf("%s of %+v: the answer turned with an argument, or with another answer", name, b)
	}
	// A list that shares memory with one that was written ahead of it turns that one back.
	wanted := kept.writers(50000)
	for i, write := range heldMemoryOf(got).writers(50000) {
		write()
		wanted[i]()
		if !heldMemoryOf(got).same(kept) {
			t.Fatalf("%s of %+v: two lists of the answer share memory", name, b)
		}
	}
	// The lists of parcels may lie in one list of both.
	writeOver(got.hold.State.Outs, nil)
	if !heldMemoryOf(got).store.same(kept.store) {
		t.Fatalf("%s of %+v: the hold's Outs are those of the store", name, b)
	}
}

func TestHoldsMemoryOfOpening(t *testing.T) {
	ask := func(m impl.PlcMap, s impl.StoStore) {
		for _, age := range []int{0, 1, s.Age - 1, s.Age, s.Age + 1, 901} {
			askHeldMemory(t, "HldOpen", heldStore{store: s}, func(b heldStore) heldStore {
				hold, after, _ := impl.HldOpen(m, b.store, age)
				return heldStore{hold: hold, store: after}
			})
		}
	}
	eachStore(231, 20, 20, func(r *rand.Rand, m impl.PlcMap, s impl.StoStore) { ask(m, s) })
	m, c, recs := fullBase(250)
	ask(m, impl.StoStore{Age: 1, Base: c, Recs: recs})
	for _, s := range wrongStores() {
		ask(m, s)
	}
}

func TestHoldsMemoryOfWriting(t *testing.T) {
	codes := map[int]int{}
	ask := func(m impl.PlcMap, h impl.HldHolder, s impl.StoStore, record impl.LogRec) {
		askHeldMemory(t, "HldWrite", heldStore{hold: h, store: s}, func(b heldStore) heldStore {
			impl.HldOk(m, b.hold)
			hold, after, written, _ := impl.HldWrite(m, b.hold, b.store, record)
			codes[written]++
			return heldStore{hold: hold, store: after}
		})
	}
	eachStore(232, 4, 20, func(r *rand.Rand, m impl.PlcMap, s impl.StoStore) {
		s.Age = max(1, s.Age)
		for _, h := range holdsAround(r, m, s) {
			for range 6 {
				ask(m, h, s, someRecord(r, m, impl.StoState(m, s)))
			}
			ask(m, h, s, impl.LogRec{})
		}
	})
	m, c, recs := fullBase(250)
	full := impl.StoStore{Age: 1, Base: c, Recs: recs}
	ask(m, impl.HldHolder{Age: 1, Count: 250, State: c}, full, restOf(4, 251))
	for _, h := range wrongHolds() {
		ask(m, h, impl.StoStore{Age: 1, Base: c}, restOf(4, 900))
	}
	for _, s := range wrongStores() {
		ask(m, impl.HldHolder{Age: 1, State: c}, s, restOf(4, 900))
	}
	for code := 0; code <= impl.StoNot; code++ {
		if codes[code] < 100 {
			t.Errorf("so many of each code: %v", codes)
		}
	}
}

// A hold whose state is the store's own memory is answered in memory that is neither's.
func TestHoldsMemoryOfOneCellInBoth(t *testing.T) {
	m, c, _ := fullBase(0)
	for _, age := range []int{1, 2} {
		for _, record := range []impl.LogRec{restOf(4, 1), ackOf(1, 3), {}} {
			one := cellWithRoom(twoParcels(m, c, 1))
			hold, after, _, _ := impl.HldWrite(m, impl.HldHolder{Age: age, State: one}, impl.StoStore{Age: 1, Base: one}, record)
			keptHold, keptStore := cloneHold(hold), cloneStore(after)
			for _, write := range memoryOf(one).writers(1) {
				write()
			}
			if !sameHold(hold, keptHold) || !sameStore(after, keptStore) {
				t.Errorf("in the age %d with %+v the answer turned with the cell: %+v, %+v", age, record, hold, after)
			}
			for _, write := range memoryOf(hold.State).writers(1) {
				write()
			}
			if !sameStore(after, keptStore) {
				t.Errorf("in the age %d with %+v the store turned with the hold: %+v", age, record, after)
			}
		}
	}
}
