package tests

import (
	"math/rand"
	"slices"
	"testing"

	"loop.example/landmarch/impl"
)

// cellMemory is all memory of a cell's lists, their spare room included.
type cellMemory struct {
	walkers []impl.WlkWalker
	outs    [][]impl.PclParcel
	numbers [][]int
}

// whole is a list with its spare room.
func whole[T any](list []T) []T {
	return list[:cap(list)]
}

// memoryOf is the memory of a cell as it lies there: what is written into the one is in the other.
func memoryOf(c impl.CllCell) cellMemory {
	memory := cellMemory{walkers: whole(c.Walkers), numbers: [][]int{whole(c.Next), whole(c.Ins)}}
	for _, outs := range whole(c.Outs) {
		memory.outs = append(memory.outs, whole(outs))
	}
	return memory
}

// copied is the same in new memory.
func (memory cellMemory) copied() cellMemory {
	own := cellMemory{walkers: append([]impl.WlkWalker{}, memory.walkers...)}
	for _, outs := range memory.outs {
		own.outs = append(own.outs, append([]impl.PclParcel{}, outs...))
	}
	for _, numbers := range memory.numbers {
		own.numbers = append(own.numbers, append([]int{}, numbers...))
	}
	return own
}

// same holds what lies in memory against each other.
func (memory cellMemory) same(other cellMemory) bool {
	return slices.Equal(memory.walkers, other.walkers) &&
		slices.EqualFunc(memory.outs, other.outs, slices.Equal[[]impl.PclParcel]) &&
		slices.EqualFunc(memory.numbers, other.numbers, slices.Equal[[]int])
}

// writers is what writes over each list of a memory by itself, with things of which no two are alike.
func (memory cellMemory) writers(seed int) []func() {
	writers := []func(){func() {
		for i := range memory.walkers {
			memory.walkers[i] = spareWalker(seed + i)
		}
	}}
	for k, outs := range memory.outs {
		writers = append(writers, func() {
			for i := range outs {
				outs[i] = spareParcel(seed + 100*k + i)
			}
		})
	}
	for k, numbers := range memory.numbers {
		writers = append(writers, func() {
			for i := range numbers {
				numbers[i] = -seed - 100*k - i
			}
		})
	}
	return writers
}

// cellWithRoom is the same cell, with spare room behind the end of each list that is not nothing.
func cellWithRoom(c impl.CllCell) impl.CllCell {
	spareNumber := func(i int) int { return 7000 + i }
	c.Walkers, _ = withRoom(c.Walkers, spareWalker)
	outs := make([][]impl.PclParcel, 0, len(c.Outs))
	for _, list := range c.Outs {
		short, _ := withRoom(list, spareParcel)
		outs = append(outs, short)
	}
	c.Outs, _ = withRoom(outs, func(i int) []impl.PclParcel { return []impl.PclParcel{spareParcel(i)} })
	c.Next, _ = withRoom(c.Next, spareNumber)
	c.Ins, _ = withRoom(c.Ins, spareNumber)
	return c
}

// askCellMemory asks that a call neither writes into its cell, spare room included, nor answers memory of it or of another answer, and that no two lists of its answer share any.
func askCellMemory(t *testing.T, name string, c impl.CllCell, call func(impl.CllCell) impl.CllCell) {
	t.Helper()
	given := cellWithRoom(c)
	before := memoryOf(given).copied()
	got, again := call(given), call(given)
	if !memoryOf(given).same(before) || !sameCell(given, c) {
		t.Fatalf("%s of %+v wrote into its argument or behind its end", name, c)
	}
	if plain := call(c); !sameCell(got, plain) || !sameCell(again, plain) {
		t.Fatalf("%s of %+v hangs on spare room", name, c)
	}
	kept := memoryOf(got).copied()
	for _, other := range []impl.CllCell{given, again} {
		for _, write := range memoryOf(other).writers(1000) {
			write()
		}
		writeOver(other.Outs, nil)
	}
	if !memoryOf(got).same(kept) {
		t.Fatalf("%s of %+v: the answer turned with the argument, or with another answer", name, c)
	}
	// A list that shares memory with one that was written ahead of it turns that one back.
	wanted := kept.writers(2000)
	for i, write := range memoryOf(got).writers(2000) {
		write()
		wanted[i]()
		if !memoryOf(got).same(kept) {
			t.Fatalf("%s of %+v: two lists of the answer share memory", name, c)
		}
	}
}

func TestCellsMemoryOfOrders(t *testing.T) {
	r := rand.New(rand.NewSource(81))
	wrong := wrongOrders()
	eachOkCell(t, 82, 6, func(m impl.PlcMap, c impl.CllCell) {
		for who := 1; who <= 9; who++ {
			orders := append(deedsOf(who, 900), wrong[r.Intn(len(wrong))])
			// Below, equal to and above what the walkers have.
			for _, seq := range []int{1, 2, 3, 449, 450, 451, 897, 898, 899} {
				orders = append(orders, impl.OrdOrder{Who: who, Seq: seq, Kind: impl.OrdRest})
			}
			for _, o := range orders {
				askCellMemory(t, "CllDo", c, func(c impl.CllCell) impl.CllCell {
					got, _ := impl.CllDo(m, c, o)
					return got
				})
			}
		}
	})
}

func TestCellsMemoryOfParcels(t *testing.T) {
	r := rand.New(rand.NewSource(83))
	eachOkCell(t, 84, 20, func(m impl.PlcMap, c impl.CllCell) {
		for side := -1; side <= 2; side++ {
			for _, p := range someParcels(r, m, c) {
				askCellMemory(t, "CllIn", c, func(c impl.CllCell) impl.CllCell {
					got, _ := impl.CllIn(m, c, side, p)
					return got
				})
			}
			for _, n := range ackNumbers(c, max(0, min(side, 1))) {
				askCellMemory(t, "CllAck", c, func(c impl.CllCell) impl.CllCell {
					got, _ := impl.CllAck(m, c, side, n)
					return got
				})
			}
		}
	})
}

// The calls that answer no cell leave theirs as it is, and so do all of one that is not ok.
func TestCellsMemoryOfQuestions(t *testing.T) {
	ask := func(m impl.PlcMap, c impl.CllCell) {
		askCellMemory(t, "asking", c, func(c impl.CllCell) impl.CllCell {
			o := impl.OrdOrder{Who: 1, Seq: 900, Kind: impl.OrdRest}
			impl.CllOk(m, c)
			impl.CllCoins(m, c)
			impl.CllFresh(m, c, o)
			return impl.CllCell{}
		})
	}
	eachOkCell(t, 85, 40, ask)
	m := impl.PlcMap{Cells: 3, Width: 3}
	for _, c := range wrongCells(m, bareCell(1)) {
		ask(m, c)
		askCellMemory(t, "CllDo", c, func(c impl.CllCell) impl.CllCell {
			got, _ := impl.CllDo(m, c, impl.OrdOrder{Who: 3, Seq: 900, Kind: impl.OrdRest})
			return got
		})
	}
}

func TestCellsMemoryOfNewOnes(t *testing.T) {
	m := impl.PlcMap{Cells: 3, Width: 3}
	for _, list := range okWalkers(m, 86) {
		for cell := -1; cell <= m.Cells; cell++ {
			askMemory(t, "CllNew", list, spareWalker, func(l []impl.WlkWalker) []impl.WlkWalker { return impl.CllNew(m, cell, l).Walkers })
			askCellMemory(t, "CllNew", impl.CllCell{}, func(impl.CllCell) impl.CllCell { return impl.CllNew(m, cell, list) })
		}
	}
}
