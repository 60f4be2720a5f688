package tests

import (
	"slices"

	"loop.example/landmarch/impl"
)

// Chapter 11 in the document's words, with its numbers written out: what the program is held against.

// serverOkPlainly is of a map that is ok.
func serverOkPlainly(m impl.PlcMap, s impl.SrvServer) bool {
	if !s.Up && (len(s.Holds) > 0 || len(s.Ghosts) > 0) {
		return false
	}
	for i, h := range s.Holds {
		if !holdOkPlainly(m, h) {
			return false
		}
		for _, before := range s.Holds[:i] {
			if before.State.Cell >= h.State.Cell {
				return false
			}
		}
	}
	return ghostsOkPlainly(m, s.Ghosts)
}

// storesOkPlainly is of a map that is ok.
func storesOkPlainly(m impl.PlcMap, stores []impl.StoStore) bool {
	for cell, s := range stores {
		if s.Base.Cell != cell || s.Age < 0 || s.Age > 900 || !cellOkPlainly(m, s.Base) {
			return false
		}
		if _, count := foldPlainly(m, s.Base, s.Recs); count != len(s.Recs) {
			return false
		}
	}
	return len(stores) == m.Cells
}

// hearPlainly is of a server, stores, a table and a message that are ok.
func hearPlainly(h hearing, x impl.MsgMsg) heard {
	after := heard{server: cloneServer(h.server), stores: cloneStores(h.stores)}
	s, store := &after.server, &after.stores[x.Cell]
	if !s.Up || x.To == -1 {
		return after
	}
	i := slices.IndexFunc(s.Holds, func(held impl.HldHolder) bool { return held.State.Cell == x.Cell })
	switch {
	case x.Kind == 1:
		if i >= 0 && s.Holds[i].Age >= x.N {
			return after
		}
		hold, opened, ok := openPlainly(h.m, *store, x.N)
		if !ok {
			return after
		}
		*store = opened
		s.Holds = slices.DeleteFunc(s.Holds, func(held impl.HldHolder) bool { return held.State.Cell == x.Cell })
		s.Holds = append(s.Holds, hold)
		slices.SortFunc(s.Holds, func(a, b impl.HldHolder) int { return a.State.Cell - b.State.Cell })
	case x.Kind == 7:
		s.Ghosts = keptPlainly(s.Ghosts, x.Ghost)
	case i < 0:
	case x.Kind == 2:
		after.hearOrder(h, i, x)
	case x.Kind == 5:
		after.hearParcel(h, i, x)
	case x.Kind == 6:
		after.write(h, i, x.Cell, impl.LogRec{Kind: 3, Side: x.Side, N: x.N})
	}
	return after
}

// write is what is written by the hold at a place.
func (after *heard) write(h hearing, i, cell int, r impl.LogRec) (int, bool) {
	hold, store, written, came := writePlainly(h.m, after.server.Holds[i], after.stores[cell], r)
	switch written {
	case 1:
		after.server.Holds[i], after.stores[cell] = hold, store
	case 2:
		after.server.Holds = slices.Delete(after.server.Holds, i, i+1)
	}
	return came, written == 1
}

func (after *heard) hearOrder(h hearing, i int, x impl.MsgMsg) {
	state := after.server.Holds[i].State
	w := placeOf(state, x.Order.Who)
	if w < 0 {
		after.said = []impl.MsgMsg{{Kind: 4, To: -1, Cell: x.Cell, Order: x.Order}}
		return
	}
	if x.Order.Seq < state.Walkers[w].Seq {
		return
	}
	code := state.Walkers[w].Last
	if x.Order.Seq > state.Walkers[w].Seq {
		came, written := after.write(h, i, x.Cell, impl.LogRec{Kind: 1, Order: x.Order})
		if !written {
			return
		}
		code = came
	}
	if code != 0 {
		after.said = []impl.MsgMsg{{Kind: 3, To: -1, Cell: x.Cell, Order: x.Order, N: code}}
	}
}

func (after *heard) hearParcel(h hearing, i int, x impl.MsgMsg) {
	n := after.server.Holds[i].State.Ins[x.Side]
	if x.Parcel.N >= n {
		if _, written := after.write(h, i, x.Cell, impl.LogRec{Kind: 2, Side: x.Side, Parcel: x.Parcel}); !written {
			return
		}
		n++
	}
	there := besidePlainly(h.m, x.Cell, x.Side)
	if to := h.table.Servers[there]; to != -1 {
		after.said = []impl.MsgMsg{{Kind: 6, To: to, Cell: there, Side: 1 - x.Side, N: n}}
	}
}

// tickPlainly is of a server and a table that are ok, and any cell.
func tickPlainly(h hearing, cell int) []impl.MsgMsg {
	var said []impl.MsgMsg
	for _, hold := range h.server.Holds {
		if hold.State.Cell != cell {
			continue
		}
		for side := range 2 {
			there := besidePlainly(h.m, cell, side)
			if there == -1 || h.table.Servers[there] == -1 {
				continue
			}
			for i, p := range hold.State.Outs[side] {
				if i < 4 {
					said = append(said, impl.MsgMsg{Kind: 5, To: h.table.Servers[there], Cell: there, Side: 1 - side, Parcel: p})
				}
			}
			for i, g := range ghostsOfPlainly(h.m, hold, side) {
				if i < 4 {
					said = append(said, impl.MsgMsg{Kind: 7, To: h.table.Servers[there], Cell: there, Side: 1 - side, Ghost: g})
				}
			}
		}
	}
	return said
}
