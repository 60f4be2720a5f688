package tests

import (
	"math/rand"
	"runtime"
	"slices"
	"testing"
	"time"

	"loop.example/landmarch/impl"
)

// spareOneWalker is what lies in spare room and in memory that is written over: no two alike, and none of them ok.
func spareOneWalker(i int) impl.OneWalker {
	return impl.OneWalker{Walker: spareWalker(i), Here: i%2 == 0}
}

// spareCount is likewise a number.
func spareCount(i int) int {
	return -9000 - i
}

// oneMemory is all memory of a one world's lists, their spare room included.
type oneMemory struct {
	walkers []impl.OneWalker
	counts  [][]int
}

// oneMemoryOf is the memory as it lies there.
func oneMemoryOf(o impl.OneWorld) oneMemory {
	memory := oneMemory{walkers: whole(o.Walkers), counts: [][]int{whole(o.Ground)}}
	for _, air := range whole(o.Air) {
		memory.counts = append(memory.counts, whole(air))
	}
	return memory
}

// copied is the same in new memory.
func (memory oneMemory) copied() oneMemory {
	own := oneMemory{walkers: append([]impl.OneWalker{}, memory.walkers...)}
	for _, counts := range memory.counts {
		own.counts = append(own.counts, append([]int{}, counts...))
	}
	return own
}

// same holds what lies in memory against each other.
func (memory oneMemory) same(other oneMemory) bool {
	return slices.Equal(memory.walkers, other.walkers) && slices.EqualFunc(memory.counts, other.counts, slices.Equal[[]int])
}

// writers is what writes over each list of a memory by itself, with things of which no two are alike.
func (memory oneMemory) writers(seed int) []func() {
	writers := []func(){func() { fill(memory.walkers, seed, spareOneWalker) }}
	for k, counts := range memory.counts {
		writers = append(writers, func() { fill(counts, seed+100*(k+1), spareCount) })
	}
	return writers
}

// writeOverOne writes over all memory of a one world.
func writeOverOne(o impl.OneWorld, seed int) {
	for _, write := range oneMemoryOf(o).writers(seed) {
		write()
	}
	writeOver(o.Air, nil)
}

// oneWithRoom is the same one world, with spare room behind the end of each list that is not nothing.
func oneWithRoom(o impl.OneWorld) impl.OneWorld {
	own := impl.OneWorld{Map: o.Map}
	own.Walkers, _ = withRoom(o.Walkers, spareOneWalker)
	own.Ground, _ = withRoom(o.Ground, spareCount)
	for _, air := range o.Air {
		short, _ := withRoom(air, spareCount)
		own.Air = append(own.Air, short)
	}
	own.Air, _ = withRoom(own.Air, func(i int) []int { return []int{spareCount(i), spareCount(i)} })
	return own
}

// askOneApart asks that no two lists of an answer share memory.
func askOneApart(t *testing.T, name string, got impl.OneWorld) {
	t.Helper()
	memory := oneMemoryOf(got)
	kept := memory.copied()
	// A list that shares memory with one that was written ahead of it turns that one back.
	wanted := kept.writers(5000)
	for i, write := range memory.writers(5000) {
		write()
		wanted[i]()
		if !memory.same(kept) {
			t.Fatalf("%s: two lists of the answer share memory", name)
		}
	}
}

// askOneMemory asks that a call neither writes into its one world, spare room included, nor answers memory of it or of another answer, and that no two lists of its answer share any.
func askOneMemory(t *testing.T, name string, o impl.OneWorld, call func(impl.OneWorld) impl.OneWorld) {
	t.Helper()
	given := oneWithRoom(o)
	memory := oneMemoryOf(given)
	before := memory.copied()
	got, again := call(given), call(given)
	if !memory.same(before) || !oneMemoryOf(given).same(before) || !sameOne(given, o) {
		t.Fatalf("%s of %+v wrote into its argument or behind its end", name, o)
	}
	if plain := call(o); !sameOne(got, plain) || !sameOne(again, plain) {
		t.Fatalf("%s of %+v hangs on spare room", name, o)
	}
	kept := oneMemoryOf(got).copied()
	writeOverOne(given, 1000)
	writeOverOne(again, 2000)
	if !oneMemoryOf(got).same(kept) {
		t.Fatalf("%s of %+v: the answer turned with the argument, or with another answer", name, o)
	}
	askOneApart(t, name, got)
}

// askAllOneMemory asks for the memory of all calls that a one world is given to, of which something comes and of which nothing does.
func askAllOneMemory(t *testing.T, o impl.OneWorld, orders []impl.OrdOrder) {
	t.Helper()
	for _, r := range orders {
		askOneMemory(t, "OneDo", o, func(o impl.OneWorld) impl.OneWorld {
			got, _ := impl.OneDo(o, r)
			return got
		})
	}
	for id := 0; id <= 10; id++ {
		askOneMemory(t, "OneLand", o, func(o impl.OneWorld) impl.OneWorld { return impl.OneLand(o, id) })
	}
	for cell := -1; cell <= 3; cell++ {
		for side := -1; side <= 2; side++ {
			for _, n := range []int{0, 1, 900} {
				askOneMemory(t, "OneDown", o, func(o impl.OneWorld) impl.OneWorld { return impl.OneDown(o, cell, side, n) })
			}
		}
	}
	askOneMemory(t, "asking", o, func(o impl.OneWorld) impl.OneWorld {
		impl.OneOk(o)
		impl.OneCoins(o)
		return impl.OneWorld{}
	})
}

func TestOneWorldsMemory(t *testing.T) {
	wrong := wrongOrders()
	eachOne(t, 451, 15, func(r *rand.Rand, o impl.OneWorld) {
		var orders []impl.OrdOrder
		for who := 1; who <= 9; who++ {
			for _, order := range deedsOf(who, oneOf(r, 1, 2, 451, 899, 900, 900, 900)) {
				if r.Intn(4) == 0 {
					orders = append(orders, order)
				}
			}
		}
		askAllOneMemory(t, o, append(orders, wrong[r.Intn(len(wrong))]))
	})
	orders := append(deedsOf(3, 900), impl.OrdOrder{Who: 1, Seq: 5, Kind: 1}, impl.OrdOrder{Who: 6, Seq: 5, Kind: 6}, impl.OrdOrder{})
	askAllOneMemory(t, codesOne(), orders)
	askAllOneMemory(t, bareOne(codesMap), orders)
	for _, o := range wrongOnes(codesOne()) {
		askAllOneMemory(t, o, orders[:3])
	}
}

// One piece of memory in several lists of a one world is answered in memory of each list's own; and what turns turns in one of them.
func TestOneWorldsMemoryOfOnePieceInAll(t *testing.T) {
	for _, cells := range []int{2, 3} {
		piece := []int{7, 7, 7, 7}
		o := impl.OneWorld{Map: impl.PlcMap{Cells: cells, Width: 2}, Ground: piece[:cells]}
		for range cells {
			o.Air = append(o.Air, piece[:2])
		}
		o.Walkers = []impl.OneWalker{{Walker: impl.WlkWalker{Id: 1, At: 1, Coins: 9}, Here: true}, {Walker: impl.WlkWalker{Id: 2, At: 2}}}
		calls := map[string]func() impl.OneWorld{
			"OneLand":         func() impl.OneWorld { return impl.OneLand(o, 2) },
			"OneLand of none": func() impl.OneWorld { return impl.OneLand(o, 5) },
			"OneDown":         func() impl.OneWorld { return impl.OneDown(o, 1, 0, 3) },
			"OneDown of none": func() impl.OneWorld { return impl.OneDown(o, 1, 0, 8) },
		}
		for _, r := range []impl.OrdOrder{{Kind: 1, To: 1}, {Kind: 3, N: 2}, {Kind: 4, N: 5}, {Kind: 5, To: 1, N: 4}, {Kind: 5, To: 0, N: 4}, {Kind: 6}} {
			r.Who, r.Seq = 1, 1
			calls["OneDo "+impl.OrdText(r)] = func() impl.OneWorld {
				got, _ := impl.OneDo(o, r)
				if want, _ := oneDoPlainly(o, r); !sameOne(got, want) {
					t.Errorf("OneDo(%+v, %v) is%s", o, r, onesApart(got, want))
				}
				return got
			}
		}
		for name, call := range calls {
			got := call()
			if !slices.Equal(piece, []int{7, 7, 7, 7}) {
				t.Fatalf("%s writes into its argument: %v", name, piece)
			}
			askOneApart(t, name, got)
			if !slices.Equal(piece, []int{7, 7, 7, 7}) {
				t.Fatalf("%s answers memory of its argument", name)
			}
		}
		if got, want := calls["OneDown"](), oneDownPlainly(o, 1, 0, 3); !sameOne(got, want) {
			t.Errorf("OneDown is%s", onesApart(got, want))
		}
	}
}

// OneOf neither writes into its world, spare room included, nor answers memory of it or of another answer, and no two lists of its answer share any.
func TestOneWorldsMemoryOfWorlds(t *testing.T) {
	ask := func(w impl.WldWorld) {
		t.Helper()
		given := worldWithRoom(w)
		memory := worldMemoryOf(given)
		before := memory.copied()
		got, again := impl.OneOf(given), impl.OneOf(given)
		if !memory.same(before) || !sameWorld(given, w) {
			t.Fatalf("OneOf of %+v wrote into its argument or behind its end", w)
		}
		if plain := impl.OneOf(w); !sameOne(got, plain) || !sameOne(again, plain) {
			t.Fatalf("OneOf of %+v hangs on spare room", w)
		}
		kept := oneMemoryOf(got).copied()
		memory.writeOverAll(1000000)
		writeOverOne(again, 2000)
		if !oneMemoryOf(got).same(kept) {
			t.Fatalf("OneOf of %+v: the answer turned with the argument, or with another answer", w)
		}
		askOneApart(t, "OneOf", got)
	}
	for _, w := range calmCases() {
		ask(w)
	}
	for _, w := range notOkCases() {
		ask(w)
	}
	r := rand.New(rand.NewSource(452))
	for _, m := range ghostMaps {
		for range 30 {
			ask(meetingWorld(r, m, 8))
		}
	}
	eachWorld(t, 453, 10, 5, func(_ *rand.Rand, w impl.WldWorld) { ask(w) })
}

// No goroutine is left behind OneOf.
func TestOneWorldsLeaveNoGoroutine(t *testing.T) {
	before := runtime.NumGoroutine()
	for range 200 {
		for _, w := range calmCases() {
			impl.OneOf(w)
		}
	}
	// One that has ended its work may still be on its way out.
	for range 200 {
		if runtime.NumGoroutine() <= before {
			return
		}
		time.Sleep(10 * time.Millisecond)
	}
	t.Errorf("there were %d goroutines, and there are %d", before, runtime.NumGoroutine())
}

// One worlds of one world at the same time are as they are alone, and none of them writes what another one reads.
func TestOneWorldsAtTheSameTime(t *testing.T) {
	r := rand.New(rand.NewSource(454))
	for _, w := range []impl.WldWorld{worldWithRoom(standingWorld()), worldWithRoom(meetingWorld(r, messagesMap, 20)), worldWithRoom(restingWorld())} {
		want := impl.OneOf(w)
		answers := make(chan bool)
		for range 8 {
			go func() {
				same := true
				for range 50 {
					same = same && sameOne(impl.OneOf(w), want)
				}
				answers <- same
			}()
		}
		for range 8 {
			if !<-answers {
				t.Errorf("at the same time an answer is another one")
			}
		}
	}
}
