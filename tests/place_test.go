package tests

import (
	"testing"

	"loop.example/landmarch/impl"
)

func TestMapsThatAreOk(t *testing.T) {
	for _, cells := range numbersAround(0, 8) {
		for _, width := range numbersAround(0, 12) {
			m := impl.PlcMap{Cells: cells, Width: width}
			want := (cells == 2 || cells == 3 || cells == 4) && width > 1 && width < 9
			if got := impl.PlcOk(m); got != want {
				t.Errorf("PlcOk(%v) is %v", m, got)
			}
		}
	}
}

func TestMapsThatAreNotOkHaveNoPlaces(t *testing.T) {
	for _, m := range badMaps() {
		if impl.PlcOk(m) {
			t.Errorf("PlcOk(%v)", m)
		}
		for _, n := range numbersAround(0, 12) {
			if got := impl.PlcCell(m, n); got != impl.PlcNone {
				t.Errorf("PlcCell(%v, %d) is %d", m, n, got)
			}
			for _, side := range numbersAround(0, 1) {
				if got := impl.PlcSide(m, n, side); got != impl.PlcNone {
					t.Errorf("PlcSide(%v, %d, %d) is %d", m, n, side, got)
				}
				if impl.PlcEdge(m, n, side) {
					t.Errorf("PlcEdge(%v, %d, %d)", m, n, side)
				}
			}
		}
	}
}

func TestP67CellsHaveWidthPlaces(t *testing.T) {
	for _, m := range okMaps() {
		row := cellsOfPlaces(m)
		places := map[int]int{}
		for _, at := range numbersAround(0, len(row)-1) {
			want := impl.PlcNone
			if at >= 0 && at < len(row) {
				want = row[at]
			}
			got := impl.PlcCell(m, at)
			if got != want {
				t.Errorf("PlcCell(%v, %d) is %d, not %d", m, at, got, want)
			}
			places[got]++
		}
		for cell := 0; cell < m.Cells; cell++ {
			if places[cell] != m.Width {
				t.Errorf("the cell %d of %v has %d places", cell, m, places[cell])
			}
		}
	}
}

func TestP67SidesAnswerEachOther(t *testing.T) {
	for _, m := range okMaps() {
		for _, cell := range numbersAround(0, m.Cells-1) {
			for _, side := range numbersAround(0, 1) {
				got := impl.PlcSide(m, cell, side)
				if want := cellBeside(m, cell, side); got != want {
					t.Errorf("PlcSide(%v, %d, %d) is %d, not %d", m, cell, side, got, want)
				}
				if got == impl.PlcNone {
					continue
				}
				if back := impl.PlcSide(m, got, 1-side); back != cell {
					t.Errorf("from %d of %v to the side %d and back leads to %d", cell, m, side, back)
				}
			}
		}
	}
}

// cellBeside looks a cell's neighbours up in pairs.
func cellBeside(m impl.PlcMap, cell, side int) int {
	for low := 0; low+1 < m.Cells; low++ {
		if cell == low && side == impl.PlcRight {
			return low + 1
		}
		if cell == low+1 && side == impl.PlcLeft {
			return low
		}
	}
	return impl.PlcNone
}

func TestP68EdgesLeadIntoTheCellThere(t *testing.T) {
	for _, m := range okMaps() {
		row := cellsOfPlaces(m)
		edges := 0
		for _, at := range numbersAround(0, len(row)-1) {
			for _, side := range numbersAround(0, 1) {
				got := impl.PlcEdge(m, at, side)
				if want := leadsOver(row, at, side); got != want {
					t.Errorf("PlcEdge(%v, %d, %d) is %v", m, at, side, got)
				}
				if got {
					edges++
				}
			}
		}
		if edges != 2*(m.Cells-1) {
			t.Errorf("%v has %d edges", m, edges)
		}
	}
}

// leadsOver says whether a place and the one beside it are both in the row, and in two cells.
func leadsOver(row []int, at, side int) bool {
	for i := 0; i+1 < len(row); i++ {
		if row[i] == row[i+1] {
			continue
		}
		if at == i && side == impl.PlcRight || at == i+1 && side == impl.PlcLeft {
			return true
		}
	}
	return false
}

func TestP68OutermostPlacesAreNoEdges(t *testing.T) {
	for _, m := range okMaps() {
		last := m.Cells*m.Width - 1
		if impl.PlcEdge(m, 0, impl.PlcLeft) || impl.PlcEdge(m, last, impl.PlcRight) {
			t.Errorf("an outermost place of %v is an edge", m)
		}
		if impl.PlcEdge(m, -1, impl.PlcRight) || impl.PlcEdge(m, last+1, impl.PlcLeft) {
			t.Errorf("a place outside of %v is an edge", m)
		}
	}
}
