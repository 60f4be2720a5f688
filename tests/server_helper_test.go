package tests

import (
	"math/rand"
	"slices"
	"testing"

	"loop.example/landmarch/impl"
)

// hearing is what a server is asked with: all but the message.
type hearing struct {
	m       impl.PlcMap
	server  impl.SrvServer
	stores  []impl.StoStore
	table   impl.ArbTable
	servers int
}

// heard is what SrvHear answers.
type heard struct {
	server impl.SrvServer
	stores []impl.StoStore
	said   []impl.MsgMsg
}

// hear is SrvHear of it.
func (h hearing) hear(x impl.MsgMsg) heard {
	server, stores, said := impl.SrvHear(h.m, h.server, h.stores, h.table, h.servers, x)
	return heard{server: server, stores: stores, said: said}
}

// tick is SrvTick of it.
func (h hearing) tick(cell int) []impl.MsgMsg {
	return impl.SrvTick(h.m, h.server, h.table, h.servers, cell)
}

// behind is the same with the server and the stores behind what was heard.
func (h hearing) behind(a heard) hearing {
	h.server, h.stores = a.server, a.stores
	return h
}

// asIs is what is heard where nothing changes and nothing is said.
func (h hearing) asIs() heard {
	return heard{server: h.server, stores: h.stores}
}

func sameServer(a, b impl.SrvServer) bool {
	return a.Up == b.Up && slices.EqualFunc(a.Holds, b.Holds, sameHold) && slices.Equal(a.Ghosts, b.Ghosts)
}

func cloneServer(s impl.SrvServer) impl.SrvServer {
	own := impl.SrvServer{Up: s.Up, Ghosts: slices.Clone(s.Ghosts)}
	for _, h := range s.Holds {
		own.Holds = append(own.Holds, cloneHold(h))
	}
	return own
}

func sameStores(a, b []impl.StoStore) bool {
	return slices.EqualFunc(a, b, sameStore)
}

func cloneStores(stores []impl.StoStore) []impl.StoStore {
	var own []impl.StoStore
	for _, s := range stores {
		own = append(own, cloneStore(s))
	}
	return own
}

// same holds all three against each other; the empty list and the nil list are the same.
func (a heard) same(b heard) bool {
	return sameServer(a.server, b.server) && sameStores(a.stores, b.stores) && slices.Equal(a.said, b.said)
}

// isNothing is whether all three are the zero value, all lists empty.
func (a heard) isNothing() bool {
	return a.same(heard{})
}

// holdOf is the server's hold on a cell, as it stands in the list.
func holdOf(s impl.SrvServer, cell int) (impl.HldHolder, bool) {
	for _, h := range s.Holds {
		if h.State.Cell == cell {
			return h, true
		}
	}
	return impl.HldHolder{}, false
}

// someHold is a hold near to the one that a store's last opener has, on the same cell: of another age, with fewer records read, with another state.
func someHold(r *rand.Rand, m impl.PlcMap, s impl.StoStore) impl.HldHolder {
	holds := holdsAround(r, m, s)
	if count := len(s.Recs) - 1; count >= 0 && r.Intn(8) == 0 {
		state, _ := foldPlainly(m, s.Base, s.Recs[:count])
		return impl.HldHolder{Age: max(1, s.Age), Count: count, State: state}
	}
	// Half of them are what the last opener has.
	if h := holds[r.Intn(len(holds))]; r.Intn(2) == 0 && h.State.Cell == s.Base.Cell {
		return h
	}
	return holds[0]
}

// someServer is a server that is ok, mostly up, that holds some of the cells.
func someServer(r *rand.Rand, m impl.PlcMap, stores []impl.StoStore) impl.SrvServer {
	if r.Intn(12) == 0 {
		return impl.SrvServer{}
	}
	s := impl.SrvServer{Up: true, Ghosts: someGhosts(r, m, oneOf(r, 0, 1, 4, 12, 19, 20))}
	for _, store := range stores {
		if r.Intn(5) > 0 {
			s.Holds = append(s.Holds, someHold(r, m, store))
		}
	}
	return s
}

// someHearing is a server with stores and a table that are ok.
func someHearing(r *rand.Rand, m impl.PlcMap, size int) hearing {
	servers := 1 + r.Intn(3)
	h := hearing{m: m, table: someTable(r, m, servers), servers: servers}
	for cell := range m.Cells {
		c := someBase(r, m, cell)
		h.stores = append(h.stores, impl.StoStore{Age: oneOf(r, 0, 1, 2, 450, 899, 900), Base: c, Recs: someLog(r, m, c, r.Intn(size+1))})
	}
	h.server = someServer(r, m, h.stores)
	return h
}

// eachHearing is so many for each of some maps.
func eachHearing(t *testing.T, seed int64, count, size int, each func(r *rand.Rand, h hearing)) {
	t.Helper()
	r := rand.New(rand.NewSource(seed))
	for _, m := range ghostMaps {
		for range count {
			h := someHearing(r, m, size)
			if !serverOkPlainly(m, h.server) || !storesOkPlainly(m, h.stores) || !tableOkPlainly(m, h.table, h.servers) {
				t.Fatalf("the test's own %+v is not ok", h)
			}
			each(r, h)
		}
	}
}

// messagesAround is messages that are ok, of every Kind, near to what a server does something of: just that, and just not.
func messagesAround(r *rand.Rand, h hearing) []impl.MsgMsg {
	var list []impl.MsgMsg
	add := func(x impl.MsgMsg) {
		if x.To != impl.MsgGate {
			x.To = r.Intn(h.servers)
		}
		if messageOkPlainly(h.m, h.servers, x) {
			list = append(list, x)
		}
	}
	for cell, store := range h.stores {
		hold, held := holdOf(h.server, cell)
		if !held {
			hold = impl.HldHolder{Age: 1, State: impl.StoState(h.m, store)}
		}
		for _, age := range []int{1, hold.Age - 1, hold.Age, hold.Age + 1, store.Age - 1, store.Age, store.Age + 1, 900} {
			add(grantOf(0, cell, age))
		}
		for _, o := range ordersAround(r, hold.State) {
			add(askOf(0, cell, o))
			if r.Intn(4) == 0 {
				add(awayOf(cell, o))
				add(toldOf(cell, o, 1+r.Intn(9)))
			}
		}
		for side := range 2 {
			for _, p := range someParcels(r, h.m, hold.State) {
				add(parcelOf(0, cell, side, p))
			}
			numbers := ackNumbers(hold.State, side)
			for range 5 {
				add(gotOf(0, cell, side, numbers[r.Intn(len(numbers))]))
			}
			for _, g := range ghostsAround(r, h, besidePlainly(h.m, cell, side)) {
				add(showOf(0, cell, side, g))
			}
		}
	}
	return list
}

// ordersAround is orders of walkers that are in a cell, and of some that are not: earlier ones, the last one, and fresh ones.
func ordersAround(r *rand.Rand, c impl.CllCell) []impl.OrdOrder {
	var list []impl.OrdOrder
	for _, w := range c.Walkers {
		for _, seq := range []int{1, w.Seq - 1, w.Seq, w.Seq + 1, w.Seq + 1, w.Seq + 2, 900} {
			o := freshRecord(r, w).Order
			o.Seq = seq
			list = append(list, o)
		}
	}
	for range 4 {
		orders := deedsOf(1+r.Intn(9), 1+r.Intn(900))
		list = append(list, orders[r.Intn(len(orders))])
	}
	return list
}

// ghostsAround is ghosts from a cell: a little later and earlier than what is kept, the same, and others.
func ghostsAround(r *rand.Rand, h hearing, from int) []impl.GstGhost {
	if from == -1 {
		return nil
	}
	list := []impl.GstGhost{ghostOf(r, h.m, from, 1+r.Intn(9))}
	for _, g := range h.server.Ghosts {
		if g.From == from && r.Intn(3) == 0 {
			other := ghostOf(r, h.m, from, g.Walker.Id)
			other.Count = g.Count + r.Intn(3) - 1
			list = append(list, other)
		}
	}
	return list
}
