package tests

import (
	"math/rand"
	"slices"
	"strconv"
	"testing"

	"loop.example/landmarch/impl"
)

// tableOkPlainly is chapter 9 in the document's words, of a map that is ok.
func tableOkPlainly(m impl.PlcMap, t impl.ArbTable, servers int) bool {
	if servers < 1 || servers > 3 || len(t.Servers) != m.Cells || len(t.Ages) != m.Cells {
		return false
	}
	for cell := range m.Cells {
		server, age := t.Servers[cell], t.Ages[cell]
		if server != -1 && (server < 0 || server >= servers) {
			return false
		}
		if age < 0 || age > 900 || (age == 0) != (server == -1) {
			return false
		}
	}
	return true
}

// grantPlainly is of a table that is ok, and any cell and server.
func grantPlainly(m impl.PlcMap, t impl.ArbTable, servers, cell, server int) (impl.ArbTable, bool) {
	t = cloneTable(t)
	if cell < 0 || cell >= m.Cells || server < 0 || server >= servers || t.Ages[cell] == 900 {
		return t, false
	}
	t.Servers[cell] = server
	t.Ages[cell]++
	return t, true
}

// sameTable holds tables against each other; the empty list and the nil list are the same.
func sameTable(a, b impl.ArbTable) bool {
	return slices.Equal(a.Servers, b.Servers) && slices.Equal(a.Ages, b.Ages)
}

// isNoTable is whether a table is the zero value, all lists empty.
func isNoTable(t impl.ArbTable) bool {
	return sameTable(t, impl.ArbTable{})
}

// cloneTable is the same table in new memory.
func cloneTable(t impl.ArbTable) impl.ArbTable {
	return impl.ArbTable{Servers: slices.Clone(t.Servers), Ages: slices.Clone(t.Ages)}
}

// someTable is a table that is ok for so many servers, its ages often at the ends of their bounds.
func someTable(r *rand.Rand, m impl.PlcMap, servers int) impl.ArbTable {
	var t impl.ArbTable
	for range m.Cells {
		server, age := r.Intn(servers+1)-1, 0
		if server >= 0 {
			age = oneOf(r, 1, 2, 450, 899, 900)
		}
		t.Servers, t.Ages = append(t.Servers, server), append(t.Ages, age)
	}
	return t
}

// eachTable is tables that are ok, so many for each map and number of servers.
func eachTable(seed int64, count int, each func(r *rand.Rand, m impl.PlcMap, t impl.ArbTable, servers int)) {
	r := rand.New(rand.NewSource(seed))
	for _, m := range okMaps() {
		for servers := 1; servers <= 3; servers++ {
			for range count {
				each(r, m, someTable(r, m, servers), servers)
			}
		}
	}
}

// wrongTables is, by what is wrong, tables that are not ok for 3 cells and 2 servers, for each clause of the chapter by itself.
func wrongTables() map[string]impl.ArbTable {
	wrong := map[string]impl.ArbTable{"nothing": {}}
	add := func(why string, turn func(*impl.ArbTable)) {
		t := impl.ArbTable{Servers: []int{0, -1, 1}, Ages: []int{4, 0, 1}}
		turn(&t)
		wrong[why] = t
	}
	add("no servers", func(t *impl.ArbTable) { t.Servers = nil })
	add("no ages", func(t *impl.ArbTable) { t.Ages = nil })
	add("a server too few", func(t *impl.ArbTable) { t.Servers = t.Servers[:2] })
	add("an age too few", func(t *impl.ArbTable) { t.Ages = t.Ages[:2] })
	add("a row too few", func(t *impl.ArbTable) { t.Servers, t.Ages = t.Servers[:2], t.Ages[:2] })
	add("a server too many", func(t *impl.ArbTable) { t.Servers = append(t.Servers, 1) })
	add("an age too many", func(t *impl.ArbTable) { t.Ages = append(t.Ages, 1) })
	add("a row too many", func(t *impl.ArbTable) { t.Servers, t.Ages = append(t.Servers, 1), append(t.Ages, 1) })
	add("a row of nobody too many", func(t *impl.ArbTable) { t.Servers, t.Ages = append(t.Servers, -1), append(t.Ages, 0) })
	for cell := range 3 {
		in := " in the cell " + strconv.Itoa(cell)
		row := func(why string, server, age int) {
			add(why+in, func(t *impl.ArbTable) { t.Servers[cell], t.Ages[cell] = server, age })
		}
		for _, server := range append([]int{-2, 2, 3}, farNumbers...) {
			row("server "+strconv.Itoa(server), server, 1)
			row("server of the age 0 "+strconv.Itoa(server), server, 0)
		}
		for _, age := range append([]int{-1, 901}, farNumbers...) {
			row("age "+strconv.Itoa(age), 1, age)
			row("nobody in the age "+strconv.Itoa(age), -1, age)
		}
		row("the first server in the age 0", 0, 0)
		row("the last server in the age 0", 1, 0)
		row("nobody in the age 1", -1, 1)
		row("nobody in the age 900", -1, 900)
	}
	return wrong
}

func TestP38NewTables(t *testing.T) {
	for _, m := range okMaps() {
		got := impl.ArbNew(m)
		if len(got.Servers) != m.Cells || len(got.Ages) != m.Cells {
			t.Fatalf("ArbNew(%v) is %+v", m, got)
		}
		for cell := range m.Cells {
			if got.Servers[cell] != -1 || got.Ages[cell] != 0 || impl.ArbServer(got, cell) != impl.PlcNone {
				t.Errorf("ArbNew(%v) is %+v", m, got)
			}
		}
		for _, servers := range numbersAround(1, 3) {
			if ok := impl.ArbOk(m, got, servers); ok != (servers >= 1 && servers <= 3) {
				t.Errorf("ArbOk(%v, %+v, %d) is %v", m, got, servers, ok)
			}
		}
	}
	for _, m := range badMaps() {
		if got := impl.ArbNew(m); !isNoTable(got) {
			t.Errorf("ArbNew(%v) is %+v", m, got)
		}
	}
}

func TestP38TablesThatAreOk(t *testing.T) {
	count := map[bool]int{}
	eachTable(261, 40, func(r *rand.Rand, m impl.PlcMap, table impl.ArbTable, servers int) {
		for _, n := range numbersAround(1, 3) {
			got := impl.ArbOk(m, table, n)
			if got != tableOkPlainly(m, table, n) || n == servers && !got {
				t.Fatalf("ArbOk(%v, %+v, %d) is %v", m, table, n, got)
			}
		}
		cell := r.Intn(m.Cells)
		for _, server := range []int{-2, -1, 0, 1, 2, 3} {
			for _, age := range []int{-1, 0, 1, 899, 900, 901} {
				turned := cloneTable(table)
				turned.Servers[cell], turned.Ages[cell] = server, age
				got := impl.ArbOk(m, turned, servers)
				if got != tableOkPlainly(m, turned, servers) {
					t.Fatalf("ArbOk(%v, %+v, %d) is %v", m, turned, servers, got)
				}
				count[got]++
			}
		}
	})
	if count[true] < 1000 || count[false] < 1000 {
		t.Errorf("so many were ok: %v", count)
	}
}

// askNoGrant asks that a table that is not ok, or not for so many servers or that map, gives nothing away.
func askNoGrant(t *testing.T, why string, m impl.PlcMap, table impl.ArbTable, servers int) {
	t.Helper()
	if impl.ArbOk(m, table, servers) {
		t.Errorf("%s: ArbOk(%v, %+v, %d) is true", why, m, table, servers)
	}
	for cell := -1; cell <= 4; cell++ {
		for server := -1; server <= 3; server++ {
			if got, ok := impl.ArbGrant(m, table, servers, cell, server); ok || !isNoTable(got) {
				t.Errorf("%s: ArbGrant(%v, %+v, %d, %d, %d) is %+v, %v", why, m, table, servers, cell, server, got, ok)
			}
		}
	}
}

func TestP38TablesThatAreNotOk(t *testing.T) {
	m := impl.PlcMap{Cells: 3, Width: 4}
	for why, table := range wrongTables() {
		askNoGrant(t, why, m, table, 2)
	}
	good := impl.ArbTable{Servers: []int{0, -1, 1}, Ages: []int{4, 0, 1}}
	if !impl.ArbOk(m, good, 2) || !impl.ArbOk(m, good, 3) {
		t.Errorf("ArbOk(%+v) is false", good)
	}
	for _, servers := range append([]int{-1, 0, 1, 4, 5}, farNumbers...) {
		askNoGrant(t, "so many servers", m, good, servers)
	}
	for _, servers := range append([]int{-1, 0, 4, 5}, farNumbers...) {
		askNoGrant(t, "so many servers, nothing given", m, impl.ArbNew(m), servers)
	}
	for _, cells := range []int{2, 4} {
		askNoGrant(t, "another map", impl.PlcMap{Cells: cells, Width: 4}, good, 2)
	}
	for _, bad := range badMaps() {
		askNoGrant(t, "the map", bad, good, 2)
		askNoGrant(t, "the map, nothing", bad, impl.ArbTable{}, 2)
	}
}

func TestP38CellsAreGiven(t *testing.T) {
	given := map[bool]int{}
	eachTable(262, 12, func(r *rand.Rand, m impl.PlcMap, table impl.ArbTable, servers int) {
		for _, cell := range numbersAround(0, m.Cells-1) {
			for _, server := range numbersAround(-1, servers-1) {
				got, ok := impl.ArbGrant(m, table, servers, cell, server)
				want, wantOk := grantPlainly(m, table, servers, cell, server)
				if ok != wantOk || !sameTable(got, want) {
					t.Fatalf("ArbGrant(%v, %+v, %d, %d, %d) is %+v, %v, not %+v, %v", m, table, servers, cell, server, got, ok, want, wantOk)
				}
				given[ok]++
				if ok {
					askGiven(t, m, table, got, cell, server)
				}
				if !impl.ArbOk(m, got, servers) {
					t.Fatalf("behind ArbGrant(%v, %+v, %d, %d, %d) the table is %+v", m, table, servers, cell, server, got)
				}
			}
		}
	})
	if given[true] < 1000 || given[false] < 1000 {
		t.Errorf("so many were given: %v", given)
	}
}

// askGiven asks that a server has one cell, in the next age, and that nothing else has turned.
func askGiven(t *testing.T, m impl.PlcMap, before, after impl.ArbTable, cell, server int) {
	t.Helper()
	for c := range m.Cells {
		wantServer, wantAge := before.Servers[c], before.Ages[c]
		if c == cell {
			wantServer, wantAge = server, wantAge+1
		}
		if after.Servers[c] != wantServer || after.Ages[c] != wantAge || impl.ArbServer(after, c) != wantServer {
			t.Fatalf("behind the grant of %d to %d %+v is %+v", cell, server, before, after)
		}
	}
}

// A cell goes from server to server, to the same one again, and on, up to the last age.
func TestP38FromServerToServer(t *testing.T) {
	m := impl.PlcMap{Cells: 4, Width: 2}
	table := impl.ArbNew(m)
	for age := 1; age <= 900; age++ {
		server := age / 2 % 3
		var ok bool
		table, ok = impl.ArbGrant(m, table, 3, 2, server)
		if !ok || impl.ArbServer(table, 2) != server || !slices.Equal(table.Ages, []int{0, 0, age, 0}) {
			t.Fatalf("in the age %d it is %+v, %v", age, table, ok)
		}
	}
	for server := -1; server <= 3; server++ {
		if got, ok := impl.ArbGrant(m, table, 3, 2, server); ok || !sameTable(got, table) {
			t.Errorf("past the last age %d is given the cell: %+v, %v", server, got, ok)
		}
	}
	got, ok := impl.ArbGrant(m, table, 3, 3, 0)
	if !ok || !slices.Equal(got.Ages, []int{0, 0, 900, 1}) || !slices.Equal(got.Servers, []int{-1, -1, table.Servers[2], 0}) {
		t.Errorf("another cell beside it: %+v, %v", got, ok)
	}
}

// Of any table, ok or not: what stands there of the cell, and PlcNone where there is none.
func TestP38ServersOfCells(t *testing.T) {
	for _, table := range []impl.ArbTable{
		{},
		{Servers: []int{}, Ages: []int{1, 2}},
		{Servers: []int{0, -1, 1}, Ages: []int{4, 0, 1}},
		{Servers: []int{2}, Ages: []int{1}},
		{Servers: []int{2, 1, 0, -1, 2}, Ages: []int{1, 1, 1, 0, 900}},
	} {
		for _, cell := range numbersAround(0, 5) {
			want := -1
			for i, server := range table.Servers {
				if i == cell {
					want = server
				}
			}
			if got := impl.ArbServer(table, cell); got != want {
				t.Errorf("ArbServer(%+v, %d) is %d, not %d", table, cell, got, want)
			}
		}
	}
	short := make([]int, 2, 5)
	if got := impl.ArbServer(impl.ArbTable{Servers: short, Ages: short}, 2); got != impl.PlcNone {
		t.Errorf("behind its end the table has %d", got)
	}
}
