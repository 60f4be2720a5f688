package impl

// Limits of places.
const (
	PlcMaxCells = 4
	PlcMaxWidth = 8
	PlcLeft     = 0
	PlcRight    = 1
	PlcNone     = -1
)

// PlcMap is a row of cells, each with as many places.
type PlcMap struct {
	Cells int
	Width int
}

// mapSide is a side as the program itself speaks of it; the exported sides are plain numbers, as any number may be handed in for one.
type mapSide int

const (
	leftSide  mapSide = PlcLeft
	rightSide mapSide = PlcRight
)

// mapPlace is a place of a map, or a number that is none.
type mapPlace int

// PlcOk says whether a map is ok.
func PlcOk(m PlcMap) bool {
	return within(m.Cells, 2, PlcMaxCells) && within(m.Width, 2, PlcMaxWidth)
}

// PlcCell is the cell in which a place lies.
func PlcCell(m PlcMap, at int) int {
	return mapPlace(at).cell(m)
}

// PlcSide is the cell that lies on a side of a cell.
func PlcSide(m PlcMap, cell int, side int) int {
	return mapSide(side).beside(m, cell)
}

// PlcEdge says whether a place is the last one of its cell towards another cell.
func PlcEdge(m PlcMap, at int, side int) bool {
	return mapPlace(at).isEdge(m, mapSide(side))
}

// within says whether a number is in low..high.
func within(n int, low int, high int) bool {
	return low <= n && n <= high
}

// hasCell says whether a map is ok and has a cell: ahead of any sum, so that none of them can wrap round.
func (m PlcMap) hasCell(cell int) bool {
	return PlcOk(m) && within(cell, 0, m.Cells-1)
}

// step is by how much one step to a side turns a number; 0, if it is no side.
func (s mapSide) step() int {
	switch s {
	case leftSide:
		return -1
	case rightSide:
		return 1
	}
	return 0
}

// across is the other side: on it a cell lies from the one on this side.
func (s mapSide) across() mapSide {
	if s == leftSide {
		return rightSide
	}
	return leftSide
}

// beside is the cell on this side of a cell.
func (s mapSide) beside(m PlcMap, cell int) int {
	by := s.step()
	if by == 0 || !m.hasCell(cell) || !m.hasCell(cell+by) {
		return PlcNone
	}
	return cell + by
}

// cell is the one in which the place lies.
func (p mapPlace) cell(m PlcMap) int {
	if !PlcOk(m) || !within(int(p), 0, m.Cells*m.Width-1) {
		return PlcNone
	}
	return int(p) / m.Width
}

// next is the place one step to a side.
func (p mapPlace) next(s mapSide) mapPlace {
	return p + mapPlace(s.step())
}

// isEdge says whether one step to a side leads from the place into the cell there.
func (p mapPlace) isEdge(m PlcMap, s mapSide) bool {
	there := s.beside(m, p.cell(m))
	return there != PlcNone && p.next(s).cell(m) == there
}
