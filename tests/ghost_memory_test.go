package tests

import (
	"math/rand"
	"slices"
	"testing"

	"loop.example/landmarch/impl"
)

// spareGhost is what lies in spare room and in memory that is written over: no two alike, and none of them ok.
func spareGhost(i int) impl.GstGhost {
	return impl.GstGhost{From: -70 - i, Count: -78, Walker: spareWalker(i)}
}

func TestGhostsMemoryOfPutting(t *testing.T) {
	ask := func(m impl.PlcMap, list []impl.GstGhost, g impl.GstGhost) {
		askMemory(t, "GstPut", list, spareGhost, func(l []impl.GstGhost) []impl.GstGhost { return impl.GstPut(m, l, g) })
	}
	eachGhosts(253, 3, func(r *rand.Rand, m impl.PlcMap, list []impl.GstGhost) {
		for from := range m.Cells {
			for id := 1; id <= 9; id++ {
				ask(m, list, ghostOf(r, m, from, id))
			}
		}
		ask(m, list, impl.GstGhost{})
		askMemory(t, "GstListOk", list, spareGhost, func(l []impl.GstGhost) []impl.GstGhost {
			impl.GstListOk(m, l)
			return nil
		})
	})
	for _, list := range wrongGhostLists() {
		ask(ghostsMap, list, impl.GstGhost{From: 1, Count: 3, Walker: impl.WlkWalker{Id: 5, At: 4}})
	}
}

func TestGhostsMemoryOfShowing(t *testing.T) {
	ask := func(m impl.PlcMap, h impl.HldHolder) {
		for side := -1; side <= 2; side++ {
			askCellMemory(t, "GstOf", h.State, func(c impl.CllCell) impl.CllCell {
				got := impl.GstOf(m, impl.HldHolder{Age: h.Age, Count: h.Count, State: c}, side)
				again := impl.GstOf(m, impl.HldHolder{Age: h.Age, Count: h.Count, State: c}, side)
				kept := slices.Clone(got)
				writeOver(again, spareGhost(1))
				if !slices.Equal(got, kept) {
					t.Fatalf("GstOf of %+v: two answers share memory", h)
				}
				writeOver(got, spareGhost(2))
				return impl.CllCell{}
			})
		}
	}
	eachOkCell(t, 254, 20, func(m impl.PlcMap, c impl.CllCell) { ask(m, impl.HldHolder{Age: 1, Count: 3, State: c}) })
	m, _, _ := fullBase(0)
	for _, h := range wrongHolds() {
		ask(m, h)
	}
}
