package tests

import (
	"math"
	"math/rand"
	"slices"
	"testing"

	"loop.example/landmarch/impl"
)

// farNumbers are those at which sums and products wrap round.
var farNumbers = []int{math.MinInt, math.MinInt + 1, -1 << 32, 1 << 32, math.MaxInt - 1, math.MaxInt}

// numbersAround is low-3..high+3 and the far ones.
func numbersAround(low, high int) []int {
	out := append([]int{}, farNumbers...)
	for n := low - 3; n <= high+3; n++ {
		out = append(out, n)
	}
	return out
}

// okMaps is each map that the document calls ok.
func okMaps() []impl.PlcMap {
	var out []impl.PlcMap
	for cells := 2; cells <= 4; cells++ {
		for width := 2; width <= 8; width++ {
			out = append(out, impl.PlcMap{Cells: cells, Width: width})
		}
	}
	return out
}

// badMaps is maps that are not ok: each number of them just past its bounds, far past them, and both at once.
func badMaps() []impl.PlcMap {
	wrongCells := append([]int{-4, -1, 0, 1, 5, 6}, farNumbers...)
	wrongWidths := append([]int{-8, -1, 0, 1, 9, 10}, farNumbers...)
	var out []impl.PlcMap
	for _, cells := range wrongCells {
		for _, width := range append([]int{2, 5, 8}, wrongWidths...) {
			out = append(out, impl.PlcMap{Cells: cells, Width: width})
		}
	}
	for _, width := range wrongWidths {
		for cells := 2; cells <= 4; cells++ {
			out = append(out, impl.PlcMap{Cells: cells, Width: width})
		}
	}
	return out
}

// cellsOfPlaces is the row of a map written out: for each place its cell.
func cellsOfPlaces(m impl.PlcMap) []int {
	var row []int
	for cell := 0; cell < m.Cells; cell++ {
		for i := 0; i < m.Width; i++ {
			row = append(row, cell)
		}
	}
	return row
}

// anyWalker is one whose numbers may all be out of their bounds; few numbers, so that they come again.
func anyWalker(r *rand.Rand) impl.WlkWalker {
	ids := []int{-2, 0, 1, 2, 3, 4, 5, 8, 9, 10, 11, math.MinInt, math.MaxInt}
	return impl.WlkWalker{
		Id:    ids[r.Intn(len(ids))],
		At:    r.Intn(40) - 4,
		Coins: r.Intn(120) - 10,
		Seq:   r.Intn(1000) - 50,
		Last:  r.Intn(14) - 2,
	}
}

// anyWalkers is lists of walkers, ok or not: of one number several, in any order.
func anyWalkers(seed int64, count int) [][]impl.WlkWalker {
	r := rand.New(rand.NewSource(seed))
	lists := [][]impl.WlkWalker{nil, {}}
	for len(lists) < count {
		var list []impl.WlkWalker
		for range r.Intn(12) {
			list = append(list, anyWalker(r))
		}
		lists = append(lists, list)
	}
	return lists
}

// okWalkers is a list that is ok on the map for each choice of numbers.
func okWalkers(m impl.PlcMap, seed int64) [][]impl.WlkWalker {
	r := rand.New(rand.NewSource(seed))
	var lists [][]impl.WlkWalker
	for choice := 0; choice < 1<<9; choice++ {
		var list []impl.WlkWalker
		for id := 1; id <= 9; id++ {
			if choice&(1<<(id-1)) != 0 {
				list = append(list, impl.WlkWalker{Id: id, At: r.Intn(m.Cells * m.Width), Coins: r.Intn(100), Seq: r.Intn(901), Last: r.Intn(10)})
			}
		}
		lists = append(lists, list)
	}
	return lists
}

// spareWalker and spareParcel are what lies in spare room and in memory that is written over: no two alike, and none of them ok.
func spareWalker(i int) impl.WlkWalker {
	return impl.WlkWalker{Id: 70 + i, At: -70, Coins: -71, Seq: -72, Last: -73}
}

func spareParcel(i int) impl.PclParcel {
	return impl.PclParcel{N: -70 - i, Kind: 70, Walker: spareWalker(i), Coins: -74}
}

// withRoom is a list with the same things and spare room behind its end that is not nothing, and all of its memory.
func withRoom[T any](list []T, spare func(int) T) (short, whole []T) {
	whole = append([]T{}, list...)
	for i := range 6 {
		whole = append(whole, spare(i))
	}
	return whole[:len(list)], whole
}

// writeOver writes over all memory of a list, its spare room included.
func writeOver[T any](list []T, with T) {
	whole := list[:cap(list)]
	for i := range whole {
		whole[i] = with
	}
}

// askMemory asks that a call neither writes into its argument, spare room included, nor answers memory of it.
func askMemory[T comparable](t *testing.T, name string, list []T, spare func(int) T, call func([]T) []T) {
	t.Helper()
	short, whole := withRoom(list, spare)
	before := slices.Clone(whole)
	got := call(short)
	if !slices.Equal(whole, before) {
		t.Fatalf("%s of %v wrote into its argument or behind its end: %v", name, list, whole)
	}
	kept := slices.Clone(got)
	again := call(short)
	writeOver(whole, spare(99))
	writeOver(again, spare(98))
	if !slices.Equal(got, kept) {
		t.Fatalf("%s of %v: the answer turned with the argument, or with the answer of another call: %v, was %v", name, list, got, kept)
	}
	writeOver(got, spare(97))
	for i := range whole {
		if whole[i] != spare(99) {
			t.Fatalf("%s of %v: the answer, or its spare room, is memory of the argument", name, list)
		}
	}
}
