package tests

import (
	"math/rand"
	"slices"
	"testing"

	"loop.example/landmarch/impl"
)

// askTableMemory asks that a call neither writes into its table, spare room included, nor answers memory of it or of another answer, and that the two lists of its answer share none.
func askTableMemory(t *testing.T, name string, table impl.ArbTable, call func(impl.ArbTable) impl.ArbTable) {
	t.Helper()
	spare := func(i int) int { return 7000 + i }
	given := impl.ArbTable{}
	given.Servers, _ = withRoom(table.Servers, spare)
	given.Ages, _ = withRoom(table.Ages, spare)
	before := impl.ArbTable{Servers: slices.Clone(whole(given.Servers)), Ages: slices.Clone(whole(given.Ages))}
	got, again := call(given), call(given)
	if !sameTable(impl.ArbTable{Servers: whole(given.Servers), Ages: whole(given.Ages)}, before) {
		t.Fatalf("%s of %+v wrote into its argument or behind its end", name, table)
	}
	if plain := call(table); !sameTable(got, plain) || !sameTable(again, plain) {
		t.Fatalf("%s of %+v hangs on spare room", name, table)
	}
	kept := impl.ArbTable{Servers: slices.Clone(whole(got.Servers)), Ages: slices.Clone(whole(got.Ages))}
	for _, list := range [][]int{given.Servers, given.Ages, again.Servers, again.Ages} {
		writeOver(list, -7001)
	}
	if !sameTable(impl.ArbTable{Servers: whole(got.Servers), Ages: whole(got.Ages)}, kept) {
		t.Fatalf("%s of %+v: the answer turned with the argument, or with another answer", name, table)
	}
	writeOver(got.Servers, -7002)
	if !slices.Equal(whole(got.Ages), kept.Ages) {
		t.Fatalf("%s of %+v: the lists of the answer share memory", name, table)
	}
	writeOver(got.Ages, -7003)
	for _, list := range [][]int{given.Servers, given.Ages, again.Servers, again.Ages} {
		if slices.ContainsFunc(whole(list), func(n int) bool { return n != -7001 }) {
			t.Fatalf("%s of %+v: the answer, or its spare room, is memory of the argument or of another answer", name, table)
		}
	}
}

func TestTablesMemory(t *testing.T) {
	ask := func(m impl.PlcMap, table impl.ArbTable, servers int) {
		for cell := -1; cell <= m.Cells; cell++ {
			for server := -1; server <= servers; server++ {
				askTableMemory(t, "ArbGrant", table, func(table impl.ArbTable) impl.ArbTable {
					got, _ := impl.ArbGrant(m, table, servers, cell, server)
					return got
				})
			}
		}
		askTableMemory(t, "asking", table, func(table impl.ArbTable) impl.ArbTable {
			impl.ArbOk(m, table, servers)
			impl.ArbServer(table, 1)
			return impl.ArbTable{}
		})
	}
	eachTable(263, 3, func(r *rand.Rand, m impl.PlcMap, table impl.ArbTable, servers int) { ask(m, table, servers) })
	for _, table := range wrongTables() {
		ask(impl.PlcMap{Cells: 3, Width: 4}, table, 2)
	}
	for _, m := range okMaps() {
		askTableMemory(t, "ArbNew", impl.ArbTable{}, func(impl.ArbTable) impl.ArbTable { return impl.ArbNew(m) })
	}
	// One list for both, as it may be handed in.
	one := []int{1, 1, 1}
	m := impl.PlcMap{Cells: 3, Width: 4}
	for cell := range 4 {
		got, _ := impl.ArbGrant(m, impl.ArbTable{Servers: one, Ages: one}, 2, cell, 0)
		ages := slices.Clone(got.Ages)
		writeOver(got.Servers, -7002)
		if !slices.Equal(one, []int{1, 1, 1}) || !slices.Equal(got.Ages, ages) {
			t.Errorf("the grant of %d of a table with one list for both shares memory", cell)
		}
	}
}
