package tests

import (
	"slices"

	"loop.example/landmarch/impl"
)

// Chapter 8 in the document's words, with its numbers written out: what the program is held against.

// edgePlainly is whether a place of a map that is ok is the last one of its cell towards another cell on a side.
func edgePlainly(m impl.PlcMap, at, side int) bool {
	return leadsOver(cellsOfPlaces(m), at, side)
}

// ghostOkPlainly is of a map that is ok.
func ghostOkPlainly(m impl.PlcMap, g impl.GstGhost) bool {
	w := g.Walker
	if w.Id < 1 || w.Id > 9 || w.Coins < 0 || w.Coins > 99 || w.Seq < 0 || w.Seq > 900 || w.Last < 0 || w.Last > 9 {
		return false
	}
	if w.At < 0 || w.At >= m.Cells*m.Width || !inCellPlainly(m, g.From, w.At) {
		return false
	}
	return g.Count >= 0 && g.Count <= 250 && (edgePlainly(m, w.At, 0) || edgePlainly(m, w.At, 1))
}

// ghostsOkPlainly is of a map that is ok.
func ghostsOkPlainly(m impl.PlcMap, list []impl.GstGhost) bool {
	for i, g := range list {
		if !ghostOkPlainly(m, g) {
			return false
		}
		for _, before := range list[:i] {
			if before.From > g.From || before.From == g.From && before.Walker.Id >= g.Walker.Id {
				return false
			}
		}
	}
	return len(list) <= 20
}

// ghostsOfPlainly is of a hold that is ok, and any side.
func ghostsOfPlainly(m impl.PlcMap, h impl.HldHolder, side int) []impl.GstGhost {
	var shown []impl.GstGhost
	for _, w := range h.State.Walkers {
		first := h.State.Cell * m.Width
		atLeft := side == 0 && h.State.Cell > 0 && w.At == first
		atRight := side == 1 && h.State.Cell < m.Cells-1 && w.At == first+m.Width-1
		if atLeft || atRight {
			shown = append(shown, impl.GstGhost{From: h.State.Cell, Count: h.Count, Walker: w})
		}
	}
	return shown
}

// keptPlainly is of ghosts and a ghost that are ok.
func keptPlainly(list []impl.GstGhost, g impl.GstGhost) []impl.GstGhost {
	list = slices.Clone(list)
	at := 0
	for i, other := range list {
		if other.From == g.From && other.Walker.Id == g.Walker.Id {
			if g.Count > other.Count {
				list[i] = g
			}
			return list
		}
		if other.From < g.From || other.From == g.From && other.Walker.Id < g.Walker.Id {
			at = i + 1
		}
	}
	if len(list) < 20 {
		list = slices.Insert(list, at, g)
	}
	return list
}
