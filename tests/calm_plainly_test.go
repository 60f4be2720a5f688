package tests

import "loop.example/landmarch/impl"

// Chapter 14 in the document's words, with its numbers written out: what the program is held against. All of it is of worlds that are ok.

// runPlainly is of at most 400 events.
func runPlainly(w impl.WldWorld, events []impl.WldEvent) impl.WldWorld {
	for _, e := range events {
		w = stepPlainly(w, e)
	}
	return w
}

// heldPlainly is of any cell.
func heldPlainly(w impl.WldWorld, cell int) bool {
	if cell < 0 || cell >= w.Map.Cells || w.Table.Servers[cell] == -1 {
		return false
	}
	for _, h := range w.Servers[w.Table.Servers[cell]].Holds {
		if h.State.Cell == cell {
			return h.Age == w.Table.Ages[cell]
		}
	}
	return false
}

func allBroughtPlainly(w impl.WldWorld) impl.WldWorld {
	for brought := 0; brought < 200 && len(w.Net) > 0; brought++ {
		w = stepPlainly(w, impl.WldEvent{Kind: 4, At: 0})
	}
	return w
}

func roundPlainly(w impl.WldWorld) impl.WldWorld {
	w = allBroughtPlainly(w)
	for cell := 0; cell < w.Map.Cells; cell++ {
		if !heldPlainly(w, cell) {
			w = stepPlainly(w, impl.WldEvent{Kind: 1, At: cell, To: cell % len(w.Servers)})
			w = allBroughtPlainly(w)
		}
	}
	for cell := 0; cell < w.Map.Cells; cell++ {
		server := w.Table.Servers[cell]
		if server == -1 {
			server = 0
		}
		w = stepPlainly(w, impl.WldEvent{Kind: 7, At: server, To: cell})
		w = allBroughtPlainly(w)
	}
	for row := 0; row < len(w.Book.Rows); row++ {
		w = stepPlainly(w, impl.WldEvent{Kind: 3, At: w.Book.Rows[row].Who})
		w = allBroughtPlainly(w)
	}
	return w
}

// calmPlainly is of at most 60 rounds.
func calmPlainly(w impl.WldWorld, rounds int) impl.WldWorld {
	for server := range w.Servers {
		w = stepPlainly(w, impl.WldEvent{Kind: 9, At: server})
	}
	for round := 0; round < rounds; round++ {
		w = roundPlainly(w)
	}
	return w
}

func restPlainly(w impl.WldWorld) bool {
	for cell := 0; cell < w.Map.Cells; cell++ {
		if !heldPlainly(w, cell) {
			return false
		}
	}
	for _, s := range w.Stores {
		state, _ := foldPlainly(w.Map, s.Base, s.Recs)
		if len(state.Outs[0]) > 0 || len(state.Outs[1]) > 0 {
			return false
		}
	}
	for _, row := range w.Book.Rows {
		if row.Busy {
			return false
		}
	}
	return len(w.Net) == 0
}
