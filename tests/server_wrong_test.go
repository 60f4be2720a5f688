package tests

import (
	"slices"
	"strconv"
	"testing"

	"loop.example/landmarch/impl"
)

// askHearsNothing asks that all three are nothing, of each message, also of those of which nothing would be made.
func askHearsNothing(t *testing.T, why string, h hearing, messages ...impl.MsgMsg) {
	t.Helper()
	for _, x := range messages {
		if got := h.hear(x); !got.isNothing() {
			t.Errorf("%s: %+v, heard by %+v, is %+v", why, x, h, got)
		}
	}
}

// someMessages is those of which standing makes something, and some of which it makes nothing.
func someMessages() []impl.MsgMsg {
	o := impl.OrdOrder{Who: 1, Seq: 2, Kind: impl.OrdRest}
	return append(messagesHeard(), toldOf(1, o, 1), awayOf(2, o), askOf(1, 0, o), grantOf(1, 2, 1))
}

func TestP22HeardOnMapsThatAreNotOk(t *testing.T) {
	for _, bad := range badMaps() {
		for _, server := range []impl.SrvServer{standing().server, impl.SrvNew(), {}} {
			h := standingWith(func(h *hearing) { h.m, h.server = bad, server })
			askHearsNothing(t, "the map", h, someMessages()...)
			h.stores, h.table = nil, impl.ArbTable{}
			askHearsNothing(t, "the map, with nothing", h, someMessages()...)
			for cell := -1; cell <= 3; cell++ {
				if said := h.tick(cell); len(said) > 0 {
					t.Errorf("on %v it says %+v", bad, said)
				}
			}
		}
	}
	// Ok by itself, but not the map of the rest.
	for _, m := range []impl.PlcMap{{Cells: 2, Width: 4}, {Cells: 4, Width: 4}, {Cells: 3, Width: 3}} {
		askHearsNothing(t, "another map", standingWith(func(h *hearing) { h.m = m }), someMessages()...)
	}
}

func TestP22ServersThatAreNotOkHearNothing(t *testing.T) {
	for why, s := range wrongServers() {
		h := standingWith(func(h *hearing) { h.server = s })
		askHearsNothing(t, why, h, someMessages()...)
		for cell := -1; cell <= 5; cell++ {
			if said := h.tick(cell); len(said) > 0 {
				t.Errorf("%s: of the cell %d it says %+v", why, cell, said)
			}
		}
	}
}

// wrongStoreLists is, by what is wrong, lists of stores that are not those of the map of standing.
func wrongStoreLists() map[string][]impl.StoStore {
	wrong := map[string][]impl.StoStore{"none": nil}
	add := func(why string, turn func([]impl.StoStore) []impl.StoStore) { wrong[why] = turn(standing().stores) }
	add("one too few", func(s []impl.StoStore) []impl.StoStore { return s[:2] })
	add("without the first one", func(s []impl.StoStore) []impl.StoStore { return s[1:] })
	add("without the one in the middle", func(s []impl.StoStore) []impl.StoStore { return slices.Delete(s, 1, 2) })
	add("one too many", func(s []impl.StoStore) []impl.StoStore {
		return append(s, impl.StoStore{Base: bareCell(3)})
	})
	add("the last one twice", func(s []impl.StoStore) []impl.StoStore { return append(s, cloneStore(s[2])) })
	add("nothing behind them", func(s []impl.StoStore) []impl.StoStore { return append(s, impl.StoStore{}) })
	add("the first two the other way round", func(s []impl.StoStore) []impl.StoStore {
		s[0], s[1] = s[1], s[0]
		return s
	})
	add("the last two the other way round", func(s []impl.StoStore) []impl.StoStore {
		s[1], s[2] = s[2], s[1]
		return s
	})
	add("one in the place of another one", func(s []impl.StoStore) []impl.StoStore {
		s[2] = cloneStore(s[0])
		return s
	})
	for i := range 3 {
		in := func(why string, turn func(*impl.StoStore)) {
			add(why+" in the cell "+strconv.Itoa(i), func(s []impl.StoStore) []impl.StoStore {
				turn(&s[i])
				return s
			})
		}
		in("nothing", func(s *impl.StoStore) { *s = impl.StoStore{} })
		for _, age := range append([]int{-1, 901}, farNumbers...) {
			in("the Age "+strconv.Itoa(age), func(s *impl.StoStore) { s.Age = age })
		}
		in("the ground", func(s *impl.StoStore) { s.Base.Ground = 901 })
		in("no Outs", func(s *impl.StoStore) { s.Base.Outs = nil })
		in("no Next", func(s *impl.StoStore) { s.Base.Next = nil })
		in("a walker elsewhere", func(s *impl.StoStore) {
			s.Base.Walkers = []impl.WlkWalker{{Id: 1, At: 4 * ((i + 1) % 3)}}
		})
		in("a record that does not fit", func(s *impl.StoStore) { s.Recs = append(s.Recs, restOf(9, 1)) })
		in("a record that is not ok", func(s *impl.StoStore) { s.Recs = append(s.Recs, impl.LogRec{}) })
		in("too many records", func(s *impl.StoStore) {
			s.Base.Walkers = []impl.WlkWalker{{Id: 4, At: 4 * i}}
			s.Recs = nil
			for seq := 1; seq <= 251; seq++ {
				s.Recs = append(s.Recs, restOf(4, seq))
			}
		})
	}
	return wrong
}

func TestP22StoresThatAreNotOk(t *testing.T) {
	for why, stores := range wrongStoreLists() {
		for _, turn := range []hearingTurn{func(*hearing) {}, down, without(1)} {
			h := standingWith(turn, func(h *hearing) { h.stores = stores })
			askHearsNothing(t, why, h, someMessages()...)
		}
	}
	m, c, _ := fullBase(0)
	for why, s := range wrongStores() {
		h := hearing{m: m, server: impl.SrvNew(), table: impl.ArbNew(m), servers: 1}
		h.stores = []impl.StoStore{{Base: bareCell(0)}, s, {Base: bareCell(2)}}
		askHearsNothing(t, why, h, grantOf(0, 0, 1), grantOf(0, 1, 900))
		h.server.Holds = []impl.HldHolder{{Age: 1, State: c}}
		askHearsNothing(t, why, h, askOf(0, 1, restOf(4, 900).Order), askOf(0, 1, restOf(9, 1).Order))
	}
}

func TestP22TablesThatAreNotOk(t *testing.T) {
	for why, table := range wrongTables() {
		for _, turn := range []hearingTurn{func(*hearing) {}, down} {
			h := standingWith(turn, func(h *hearing) { h.table = table })
			askHearsNothing(t, why, h, someMessages()...)
			for cell := -1; cell <= 3; cell++ {
				if said := h.tick(cell); len(said) > 0 {
					t.Errorf("%s: of the cell %d it says %+v", why, cell, said)
				}
			}
		}
	}
	for _, servers := range append([]int{-1, 0, 1, 4, 5}, farNumbers...) {
		h := standingWith(func(h *hearing) { h.servers = servers })
		askHearsNothing(t, strconv.Itoa(servers)+" servers", h, someMessages()...)
		for cell := range 3 {
			if said := h.tick(cell); len(said) > 0 {
				t.Errorf("of %d servers it says %+v", servers, said)
			}
		}
	}
	// Nobody has anything, so that any number of servers would do but for its bounds.
	for _, servers := range append([]int{-1, 0, 4, 5}, farNumbers...) {
		h := standingWith(nobodyHas(0), nobodyHas(1), nobodyHas(2), func(h *hearing) { h.servers = servers })
		askHearsNothing(t, strconv.Itoa(servers)+" servers", h, someMessages()...)
	}
}

func TestP22MessagesThatAreNotOkAreNotHeard(t *testing.T) {
	for why, x := range wrongMessages() {
		askHearsNothing(t, why, standing(), x)
		askHearsNothing(t, why, standingWith(down), x)
		askHearsNothing(t, why, standingWith(without(1)), x)
	}
	for _, x := range messagesHeard() {
		for name, more := range someMore() {
			if mayHave(x.Kind, name) {
				continue
			}
			askHearsNothing(t, name, standing(), turnedMessage(x, more))
		}
		// Of one server there is no second one.
		h := standingWith(func(h *hearing) { h.table.Servers, h.servers = []int{0, 0, 0}, 1 })
		askHearsNothing(t, "past the last server", h, turnedMessage(x, func(x *impl.MsgMsg) { x.To = 1 }))
		if got := h.hear(x); got.isNothing() {
			t.Errorf("for the only server %+v is nothing", x)
		}
	}
}
