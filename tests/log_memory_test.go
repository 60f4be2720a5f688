package tests

import (
	"math/rand"
	"slices"
	"testing"

	"loop.example/landmarch/impl"
)

// spareRecord is what lies in spare room and in memory that is written over: no two alike, and none of them ok.
func spareRecord(i int) impl.LogRec {
	return impl.LogRec{Kind: 70 + i, Order: impl.OrdOrder{Who: -75}, Side: -76, Parcel: spareParcel(i), N: -77}
}

// storeMemory is all memory of a store's lists, their spare room included.
type storeMemory struct {
	cell cellMemory
	recs []impl.LogRec
}

// storeMemoryOf is the memory of a store as it lies there.
func storeMemoryOf(s impl.StoStore) storeMemory {
	return storeMemory{cell: memoryOf(s.Base), recs: whole(s.Recs)}
}

// copied is the same in new memory.
func (memory storeMemory) copied() storeMemory {
	return storeMemory{cell: memory.cell.copied(), recs: append([]impl.LogRec{}, memory.recs...)}
}

// same holds what lies in memory against each other.
func (memory storeMemory) same(other storeMemory) bool {
	return memory.cell.same(other.cell) && slices.Equal(memory.recs, other.recs)
}

// writers is what writes over each list of a memory by itself.
func (memory storeMemory) writers(seed int) []func() {
	return append(memory.cell.writers(seed), func() {
		for i := range memory.recs {
			memory.recs[i] = spareRecord(seed + i)
		}
	})
}

// storeWithRoom is the same store, with spare room behind the end of each list that is not nothing.
func storeWithRoom(s impl.StoStore) impl.StoStore {
	s.Base = cellWithRoom(s.Base)
	s.Recs, _ = withRoom(s.Recs, spareRecord)
	return s
}

// askStoreMemory asks that a call neither writes into its store, spare room included, nor answers memory of it or of another answer, and that no two lists of its answer share any.
func askStoreMemory(t *testing.T, name string, s impl.StoStore, call func(impl.StoStore) impl.StoStore) {
	t.Helper()
	given := storeWithRoom(s)
	before := storeMemoryOf(given).copied()
	got, again := call(given), call(given)
	if !storeMemoryOf(given).same(before) || !sameStore(given, s) {
		t.Fatalf("%s of %+v wrote into its argument or behind its end", name, s)
	}
	if plain := call(s); !sameStore(got, plain) || !sameStore(again, plain) {
		t.Fatalf("%s of %+v hangs on spare room", name, s)
	}
	kept := storeMemoryOf(got).copied()
	for _, other := range []impl.StoStore{given, again} {
		for _, write := range storeMemoryOf(other).writers(1000) {
			write()
		}
		writeOver(other.Base.Outs, nil)
	}
	if !storeMemoryOf(got).same(kept) {
		t.Fatalf("%s of %+v: the answer turned with the argument, or with another answer", name, s)
	}
	// A list that shares memory with one that was written ahead of it turns that one back.
	wanted := kept.writers(2000)
	for i, write := range storeMemoryOf(got).writers(2000) {
		write()
		wanted[i]()
		if !storeMemoryOf(got).same(kept) {
			t.Fatalf("%s of %+v: two lists of the answer share memory", name, s)
		}
	}
}

func TestLogsMemoryOfRecords(t *testing.T) {
	r := rand.New(rand.NewSource(171))
	eachOkCell(t, 172, 10, func(m impl.PlcMap, c impl.CllCell) {
		for _, record := range append(recordsFor(r, m, c), impl.LogRec{}) {
			askCellMemory(t, "LogApply", c, func(c impl.CllCell) impl.CllCell {
				got, _, _ := impl.LogApply(m, c, record)
				return got
			})
		}
	})
}

func TestLogsMemoryOfFolds(t *testing.T) {
	ask := func(m impl.PlcMap, s impl.StoStore) {
		askStoreMemory(t, "LogFold", s, func(s impl.StoStore) impl.StoStore {
			got, _ := impl.LogFold(m, s.Base, s.Recs)
			return impl.StoStore{Base: got}
		})
		askStoreMemory(t, "StoState", s, func(s impl.StoStore) impl.StoStore {
			return impl.StoStore{Base: impl.StoState(m, s)}
		})
		askStoreMemory(t, "asking", s, func(s impl.StoStore) impl.StoStore {
			impl.StoOk(m, s)
			impl.LogCount(s.Recs, 4, 1)
			return impl.StoStore{}
		})
	}
	eachStore(173, 30, 20, func(r *rand.Rand, m impl.PlcMap, s impl.StoStore) {
		ask(m, s)
		s.Recs = append(slices.Clone(s.Recs), impl.LogRec{})
		ask(m, s)
	})
	m, _, _ := fullBase(0)
	for _, s := range wrongStores() {
		ask(m, s)
	}
}

func TestLogsMemoryOfStores(t *testing.T) {
	ask := func(m impl.PlcMap, s impl.StoStore, record impl.LogRec) {
		for _, age := range []int{s.Age - 1, s.Age, s.Age + 1} {
			askStoreMemory(t, "StoFence", s, func(s impl.StoStore) impl.StoStore {
				got, _ := impl.StoFence(m, s, age)
				return got
			})
			for _, at := range []int{len(s.Recs), 0} {
				askStoreMemory(t, "StoAppend", s, func(s impl.StoStore) impl.StoStore {
					got, _ := impl.StoAppend(m, s, age, at, record)
					return got
				})
			}
		}
	}
	eachStore(174, 20, 20, func(r *rand.Rand, m impl.PlcMap, s impl.StoStore) {
		for range 6 {
			ask(m, s, someRecord(r, m, impl.StoState(m, s)))
		}
		ask(m, s, impl.LogRec{})
	})
	m, c, recs := fullBase(250)
	ask(m, impl.StoStore{Base: c, Recs: recs}, restOf(4, 251))
	for _, s := range wrongStores() {
		ask(m, s, restOf(4, 900))
	}
}

func TestLogsMemoryOfNewStores(t *testing.T) {
	m := impl.PlcMap{Cells: 3, Width: 3}
	for _, list := range okWalkers(m, 175) {
		for cell := -1; cell <= m.Cells; cell++ {
			askMemory(t, "StoNew", list, spareWalker, func(l []impl.WlkWalker) []impl.WlkWalker { return impl.StoNew(m, cell, l).Base.Walkers })
			askStoreMemory(t, "StoNew", impl.StoStore{}, func(impl.StoStore) impl.StoStore { return impl.StoNew(m, cell, list) })
		}
	}
}
