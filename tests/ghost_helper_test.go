package tests

import (
	"math/rand"
	"strconv"

	"loop.example/landmarch/impl"
)

// ghostMaps is maps on which ghosts are put: with fewer keys than ghosts may be kept, and with more.
var ghostMaps = []impl.PlcMap{{Cells: 2, Width: 2}, {Cells: 3, Width: 3}, {Cells: 4, Width: 8}}

// edgesOf is the places of a cell that are at an edge.
func edgesOf(m impl.PlcMap, cell int) []int {
	var edges []int
	if cell > 0 {
		edges = append(edges, cell*m.Width)
	}
	if cell < m.Cells-1 {
		edges = append(edges, (cell+1)*m.Width-1)
	}
	return edges
}

// ghostOf is a ghost of a walker from a cell that is ok, its Count often at the ends of its bounds.
func ghostOf(r *rand.Rand, m impl.PlcMap, from, id int) impl.GstGhost {
	w := walkerIn(r, m, from, id)
	w.At = oneOf(r, edgesOf(m, from)...)
	return impl.GstGhost{From: from, Count: oneOf(r, 0, 1, 2, 125, 249, 250), Walker: w}
}

// someGhosts is ghosts that are ok: so many, or as many as there can be.
func someGhosts(r *rand.Rand, m impl.PlcMap, count int) []impl.GstGhost {
	keys := r.Perm(m.Cells * 9)
	taken := map[int]bool{}
	for _, key := range keys[:min(count, len(keys), 20)] {
		taken[key] = true
	}
	var list []impl.GstGhost
	for key := range m.Cells * 9 {
		if taken[key] {
			list = append(list, ghostOf(r, m, key/9, 1+key%9))
		}
	}
	return list
}

// eachGhosts is ghosts that are ok, so many lists of each size.
func eachGhosts(seed int64, count int, each func(r *rand.Rand, m impl.PlcMap, list []impl.GstGhost)) {
	r := rand.New(rand.NewSource(seed))
	for _, m := range ghostMaps {
		for size := 0; size <= 20; size++ {
			for range count {
				each(r, m, someGhosts(r, m, size))
			}
		}
	}
}

// wrongGhosts is, by what is wrong, ghosts that are not ok on the map of 3 cells with 4 places, for each clause of the chapter by itself.
func wrongGhosts() map[string]impl.GstGhost {
	good := impl.GstGhost{From: 1, Count: 3, Walker: impl.WlkWalker{Id: 5, At: 4, Coins: 7, Seq: 8, Last: 1}}
	wrong := map[string]impl.GstGhost{"nothing": {}}
	add := func(why string, turn func(*impl.GstGhost)) {
		g := good
		turn(&g)
		wrong[why] = g
	}
	for _, n := range append([]int{-1, 251}, farNumbers...) {
		add("Count "+strconv.Itoa(n), func(g *impl.GstGhost) { g.Count = n })
	}
	for _, n := range append([]int{-1, 0, 2, 3}, farNumbers...) {
		add("in the cell 1, From "+strconv.Itoa(n), func(g *impl.GstGhost) { g.From = n })
	}
	for _, at := range []int{5, 6} {
		add("inside, at "+strconv.Itoa(at), func(g *impl.GstGhost) { g.Walker.At = at })
	}
	for _, at := range []int{3, 8} {
		add("at an edge of another cell, at "+strconv.Itoa(at), func(g *impl.GstGhost) { g.Walker.At = at })
	}
	add("at the left end of the map", func(g *impl.GstGhost) { g.From, g.Walker.At = 0, 0 })
	add("at the right end of the map", func(g *impl.GstGhost) { g.From, g.Walker.At = 2, 11 })
	for _, at := range append([]int{-1, 12}, farNumbers...) {
		for from := -1; from <= 3; from++ {
			add("nowhere, at "+strconv.Itoa(at)+" from "+strconv.Itoa(from), func(g *impl.GstGhost) { g.From, g.Walker.At = from, at })
		}
	}
	add("no walker", func(g *impl.GstGhost) { g.Walker = impl.WlkWalker{} })
	add("nobody", func(g *impl.GstGhost) { g.Walker = impl.WlkWalker{At: 4} })
	for _, bound := range walkerBounds {
		for _, n := range append([]int{bound.low - 1, bound.high + 1}, farNumbers...) {
			add(bound.name+" "+strconv.Itoa(n), func(g *impl.GstGhost) { bound.set(&g.Walker, n) })
		}
	}
	return wrong
}

// wrongGhostLists is, by what is wrong, lists of ghosts that are not ok on the same map.
func wrongGhostLists() map[string][]impl.GstGhost {
	ghost := func(from, at, id int) impl.GstGhost {
		return impl.GstGhost{From: from, Count: 3, Walker: impl.WlkWalker{Id: id, At: at}}
	}
	first, second, third := ghost(0, 3, 5), ghost(1, 7, 2), ghost(2, 8, 9)
	later := second
	later.Count = 4
	wrong := map[string][]impl.GstGhost{
		"the wrong way round by cells":    {second, first},
		"the last two the wrong way":      {first, third, second},
		"the wrong way round by numbers":  {ghost(1, 4, 6), ghost(1, 4, 3)},
		"by numbers, not by cells":        {ghost(1, 4, 3), ghost(0, 3, 6)},
		"one twice":                       {first, second, second, third},
		"one twice with another Count":    {second, later},
		"one twice at two edges":          {ghost(1, 4, 2), second},
		"one too many":                    tooManyGhosts(),
		"one too many, and nothing in it": make([]impl.GstGhost, 21),
	}
	for why, g := range wrongGhosts() {
		wrong["alone: "+why] = []impl.GstGhost{g}
		wrong["first: "+why] = []impl.GstGhost{g, second, third}
		wrong["in the middle: "+why] = []impl.GstGhost{first, g, third}
		wrong["last: "+why] = []impl.GstGhost{first, second, g}
	}
	return wrong
}

// tooManyGhosts is 21 ghosts that are ok by themselves, in their order.
func tooManyGhosts() []impl.GstGhost {
	var list []impl.GstGhost
	for key := range 21 {
		from := key / 9
		list = append(list, impl.GstGhost{From: from, Count: key, Walker: impl.WlkWalker{Id: 1 + key%9, At: []int{3, 7, 8}[from]}})
	}
	return list
}
