package tests

import (
	"math/rand"
	"slices"
	"strconv"
	"testing"

	"loop.example/landmarch/impl"
)

// wrongServers is, by what is wrong, servers that are not ok on the map of standing, for each clause of the chapter by itself.
func wrongServers() map[string]impl.SrvServer {
	wrong := map[string]impl.SrvServer{}
	add := func(why string, turn func(*impl.SrvServer)) {
		s := cloneServer(standing().server)
		turn(&s)
		wrong[why] = s
	}
	add("not up", func(s *impl.SrvServer) { s.Up = false })
	add("not up, with holds", func(s *impl.SrvServer) { s.Up, s.Ghosts = false, nil })
	add("not up, with one hold", func(s *impl.SrvServer) { s.Up, s.Holds, s.Ghosts = false, s.Holds[:1], nil })
	add("not up, with ghosts", func(s *impl.SrvServer) { s.Up, s.Holds = false, nil })
	add("not up, with one ghost", func(s *impl.SrvServer) { s.Up, s.Holds, s.Ghosts = false, nil, s.Ghosts[:1] })
	add("holds that fall", func(s *impl.SrvServer) { slices.Reverse(s.Holds) })
	add("two of one cell", func(s *impl.SrvServer) { s.Holds = append(s.Holds[:1], cloneHold(s.Holds[0])) })
	add("two of one cell, of two ages", func(s *impl.SrvServer) {
		later := cloneHold(s.Holds[0])
		later.Age = 6
		s.Holds = slices.Insert(s.Holds, 1, later)
	})
	add("two of the last cell", func(s *impl.SrvServer) { s.Holds = append(s.Holds, cloneHold(s.Holds[1])) })
	add("the first and the last one of one cell", func(s *impl.SrvServer) { s.Holds = append(s.Holds, cloneHold(s.Holds[0])) })
	add("five holds", func(s *impl.SrvServer) {
		for cell := 3; cell <= 5; cell++ {
			s.Holds = append(s.Holds, impl.HldHolder{Age: 1, State: bareCell(cell)})
		}
	})
	add("a hold that is nothing", func(s *impl.SrvServer) { s.Holds = append([]impl.HldHolder{{}}, s.Holds...) })
	for i, name := range []string{"first", "last"} {
		for _, age := range append([]int{-1, 0, 901}, farNumbers...) {
			add("the "+name+" of the Age "+strconv.Itoa(age), func(s *impl.SrvServer) { s.Holds[i].Age = age })
		}
		for _, count := range append([]int{-1, 251}, farNumbers...) {
			add("the "+name+" with the Count "+strconv.Itoa(count), func(s *impl.SrvServer) { s.Holds[i].Count = count })
		}
		for why, state := range wrongCells(messagesMap, bareCell(1)) {
			if state.Cell == 1 && i == 1 {
				continue
			}
			add("the "+name+"'s state: "+why, func(s *impl.SrvServer) {
				s.Holds[i].State = state
				s.Holds = s.Holds[:i+1]
			})
		}
	}
	for why, ghosts := range wrongGhostLists() {
		add("ghosts: "+why, func(s *impl.SrvServer) { s.Ghosts = ghosts })
		add("ghosts alone: "+why, func(s *impl.SrvServer) { s.Holds, s.Ghosts = nil, ghosts })
	}
	return wrong
}

func TestP22NewServers(t *testing.T) {
	got := impl.SrvNew()
	if !got.Up || len(got.Holds) != 0 || len(got.Ghosts) != 0 {
		t.Errorf("SrvNew is %+v", got)
	}
	for _, m := range okMaps() {
		if !impl.SrvOk(m, got) || !impl.SrvOk(m, impl.SrvServer{}) {
			t.Errorf("on %v SrvOk of servers with nothing is false", m)
		}
	}
	for _, bad := range badMaps() {
		for _, s := range []impl.SrvServer{got, {}, standing().server} {
			if impl.SrvOk(bad, s) {
				t.Errorf("SrvOk(%v, %+v) is true", bad, s)
			}
		}
	}
}

func TestP22ServersThatAreOk(t *testing.T) {
	eachHearing(t, 291, 60, 3, func(r *rand.Rand, h hearing) {
		if !impl.SrvOk(h.m, h.server) {
			t.Fatalf("SrvOk(%v, %+v) is false", h.m, h.server)
		}
		for _, up := range []bool{false, true} {
			s := cloneServer(h.server)
			s.Up = up
			if want := up || len(s.Holds)+len(s.Ghosts) == 0; impl.SrvOk(h.m, s) != want {
				t.Fatalf("SrvOk(%v, %+v) is not %v", h.m, s, want)
			}
		}
		r.Shuffle(len(h.server.Holds), func(i, j int) {
			h.server.Holds[i], h.server.Holds[j] = h.server.Holds[j], h.server.Holds[i]
		})
		if got := impl.SrvOk(h.m, h.server); got != serverOkPlainly(h.m, h.server) {
			t.Fatalf("SrvOk(%v, %+v) is %v", h.m, h.server, got)
		}
	})
	s := standing().server
	for _, holds := range [][]impl.HldHolder{nil, {}, s.Holds[:1], s.Holds[1:], s.Holds} {
		for _, ghosts := range [][]impl.GstGhost{nil, {}, s.Ghosts[:1], s.Ghosts, tooManyGhosts()[:20]} {
			if !impl.SrvOk(messagesMap, impl.SrvServer{Up: true, Holds: holds, Ghosts: ghosts}) {
				t.Errorf("with %+v and %+v a server is not ok", holds, ghosts)
			}
		}
	}
}

func TestP22ServersThatAreNotOk(t *testing.T) {
	for why, s := range wrongServers() {
		if impl.SrvOk(messagesMap, s) || serverOkPlainly(messagesMap, s) {
			t.Errorf("%s: SrvOk(%+v) is true", why, s)
		}
	}
	m, _, _ := fullBase(0)
	for why, h := range wrongHolds() {
		if impl.SrvOk(m, impl.SrvServer{Up: true, Holds: []impl.HldHolder{h}}) {
			t.Errorf("%s: SrvOk of the hold %+v is true", why, h)
		}
	}
}

// The first hold on a cell, of any server, ok or not.
func TestP24HoldsOfServers(t *testing.T) {
	later := cloneHold(standing().server.Holds[0])
	later.Age = 9
	two := standing().server
	two.Holds = append(two.Holds, later)
	servers := []impl.SrvServer{{}, impl.SrvNew(), standing().server, two,
		{Holds: []impl.HldHolder{{}, {Age: 1}}},
		{Holds: []impl.HldHolder{{Age: 3, State: impl.CllCell{Cell: 7}}, {Age: 4, State: impl.CllCell{Cell: -1}}}}}
	for _, s := range wrongServers() {
		servers = append(servers, s)
	}
	found := 0
	for _, s := range servers {
		for _, cell := range numbersAround(0, 7) {
			want, wantOk := holdOf(s, cell)
			got, ok := impl.SrvHold(s, cell)
			if ok != wantOk || !sameHold(got, want) {
				t.Fatalf("SrvHold(%+v, %d) is %+v, %v", s, cell, got, ok)
			}
			if ok {
				found++
			} else if !isNoHold(got) {
				t.Fatalf("SrvHold(%+v, %d) is false and %+v", s, cell, got)
			}
		}
	}
	if found < 100 {
		t.Errorf("%d holds were found", found)
	}
	if got, ok := impl.SrvHold(two, 1); !ok || got.Age != 5 {
		t.Errorf("of two holds it is %+v, %v", got, ok)
	}
}
