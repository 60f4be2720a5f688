package tests

import (
	"math"
	"math/rand"
	"slices"
	"testing"

	"loop.example/landmarch/impl"
)

// walkerBounds is, for each number of a walker but its place, its bounds, and how it is set.
var walkerBounds = []struct {
	name      string
	low, high int
	set       func(*impl.WlkWalker, int)
}{
	{"Id", 1, 9, func(w *impl.WlkWalker, n int) { w.Id = n }},
	{"Coins", 0, 99, func(w *impl.WlkWalker, n int) { w.Coins = n }},
	{"Seq", 0, 900, func(w *impl.WlkWalker, n int) { w.Seq = n }},
	{"Last", 0, 9, func(w *impl.WlkWalker, n int) { w.Last = n }},
}

func TestWalkersThatAreOk(t *testing.T) {
	for _, m := range okMaps() {
		for _, at := range numbersAround(0, m.Cells*m.Width-1) {
			w := impl.WlkWalker{Id: 1, At: at}
			if got, want := impl.WlkOk(m, w), at >= 0 && at < m.Cells*m.Width; got != want {
				t.Errorf("WlkOk(%v, %v) is %v", m, w, got)
			}
		}
		for _, bound := range walkerBounds {
			for _, n := range numbersAround(bound.low, bound.high) {
				w := impl.WlkWalker{Id: 5, At: m.Width, Coins: 7, Seq: 8, Last: 1}
				bound.set(&w, n)
				if got, want := impl.WlkOk(m, w), n >= bound.low && n <= bound.high; got != want {
					t.Errorf("WlkOk(%v, %v) is %v: %s", m, w, got, bound.name)
				}
			}
		}
		if impl.WlkOk(m, impl.WlkWalker{}) {
			t.Errorf("nothing is a walker on %v", m)
		}
	}
}

func TestNoWalkerIsOkOnAMapThatIsNot(t *testing.T) {
	first, second := impl.WlkWalker{Id: 1, At: 0}, impl.WlkWalker{Id: 2, At: 1}
	for _, m := range badMaps() {
		if impl.WlkOk(m, first) {
			t.Errorf("a walker is ok on %v", m)
		}
		for _, list := range [][]impl.WlkWalker{{first}, {first, second}, {{}}} {
			if impl.WlkListOk(m, list) {
				t.Errorf("the walkers %v are ok on %v", list, m)
			}
		}
	}
}

// Of no walkers all are ok, and their numbers rise: that asks nothing of the map.
func TestP70NoWalkersAreOkOnAnyMap(t *testing.T) {
	for _, m := range append(okMaps(), badMaps()...) {
		for _, list := range [][]impl.WlkWalker{nil, {}, make([]impl.WlkWalker, 0, 3)} {
			if !impl.WlkListOk(m, list) {
				t.Errorf("WlkListOk(%v, %v) is false", m, list)
			}
		}
	}
}

func TestListsOfWalkersThatAreOk(t *testing.T) {
	m := impl.PlcMap{Cells: 3, Width: 4}
	for _, list := range okWalkers(m, 1) {
		if !impl.WlkListOk(m, list) {
			t.Fatalf("WlkListOk(%v) is false", list)
		}
		for i := range list {
			wrong := append([]impl.WlkWalker{}, list...)
			wrong[i].Coins = 100
			if impl.WlkListOk(m, wrong) {
				t.Fatalf("WlkListOk(%v) is true: the place %d is wrong", wrong, i)
			}
			twice := append(append([]impl.WlkWalker{}, list[:i+1]...), list[i:]...)
			if impl.WlkListOk(m, twice) {
				t.Fatalf("WlkListOk(%v) is true: the place %d is there twice", twice, i)
			}
			if i == 0 {
				continue
			}
			turned := append([]impl.WlkWalker{}, list...)
			turned[i-1], turned[i] = turned[i], turned[i-1]
			if impl.WlkListOk(m, turned) {
				t.Fatalf("WlkListOk(%v) is true: they do not rise at %d", turned, i)
			}
		}
	}
}

func TestListsOfAnyWalkersThatAreOk(t *testing.T) {
	for _, m := range []impl.PlcMap{{Cells: 2, Width: 2}, {Cells: 4, Width: 8}} {
		for _, list := range anyWalkers(2, 3000) {
			want := true
			for i, w := range list {
				want = want && impl.WlkOk(m, w) && (i == 0 || list[i-1].Id < w.Id)
			}
			if got := impl.WlkListOk(m, list); got != want {
				t.Fatalf("WlkListOk(%v, %v) is %v", m, list, got)
			}
		}
	}
}

// askedNumbers is those for which walkers are asked in lists of any walkers.
var askedNumbers = []int{math.MinInt, -2, -1, 0, 1, 2, 3, 4, 5, 8, 9, 10, 11, math.MaxInt}

// findPlainly, outPlainly and putPlainly are the document's words, place by place.
func findPlainly(list []impl.WlkWalker, id int) (impl.WlkWalker, bool) {
	for _, w := range list {
		if w.Id == id {
			return w, true
		}
	}
	return impl.WlkWalker{}, false
}

func outPlainly(list []impl.WlkWalker, id int) []impl.WlkWalker {
	var out []impl.WlkWalker
	for _, w := range list {
		if w.Id != id {
			out = append(out, w)
		}
	}
	return out
}

func putPlainly(list []impl.WlkWalker, w impl.WlkWalker) []impl.WlkWalker {
	var out []impl.WlkWalker
	put := false
	for _, other := range outPlainly(list, w.Id) {
		if !put && other.Id > w.Id {
			out = append(out, w)
			put = true
		}
		out = append(out, other)
	}
	if !put {
		out = append(out, w)
	}
	return out
}

func TestFindIsTheFirst(t *testing.T) {
	for _, list := range anyWalkers(3, 2000) {
		for _, id := range askedNumbers {
			got, ok := impl.WlkFind(list, id)
			want, wantOk := findPlainly(list, id)
			if got != want || ok != wantOk {
				t.Fatalf("WlkFind(%v, %d) is %v, %v", list, id, got, ok)
			}
		}
	}
}

func TestOutLeavesAllOthersInTheirOrder(t *testing.T) {
	for _, list := range anyWalkers(4, 2000) {
		for _, id := range askedNumbers {
			if got, want := impl.WlkOut(list, id), outPlainly(list, id); !slices.Equal(got, want) {
				t.Fatalf("WlkOut(%v, %d) is %v, not %v", list, id, got, want)
			}
		}
	}
}

func TestP69PutAmongAnyWalkers(t *testing.T) {
	r := rand.New(rand.NewSource(5))
	for _, list := range anyWalkers(6, 5000) {
		w := anyWalker(r)
		put := impl.WlkPut(list, w)
		if want := putPlainly(list, w); !slices.Equal(put, want) {
			t.Fatalf("WlkPut(%v, %v) is %v, not %v", list, w, put, want)
		}
		if got, ok := impl.WlkFind(put, w.Id); !ok || got != w {
			t.Fatalf("WlkFind of WlkPut(%v, %v) is %v, %v", list, w, got, ok)
		}
		if !slices.Equal(impl.WlkOut(put, w.Id), impl.WlkOut(list, w.Id)) {
			t.Fatalf("WlkOut of WlkPut(%v, %v) is not that of what was", list, w)
		}
		for _, id := range askedNumbers {
			before, was := impl.WlkFind(list, id)
			after, is := impl.WlkFind(put, id)
			if id != w.Id && (before != after || was != is) {
				t.Fatalf("WlkPut(%v, %v): %d was %v, is %v", list, w, id, before, after)
			}
		}
	}
}

// A list of many numbers is told in its order, however often it is asked: a map has none.
func TestP69LongListsKeepTheirOrder(t *testing.T) {
	r := rand.New(rand.NewSource(7))
	var list []impl.WlkWalker
	for i := range 600 {
		list = append(list, impl.WlkWalker{Id: r.Intn(200) - 100, At: i})
	}
	for id := -102; id <= 102; id++ {
		w := impl.WlkWalker{Id: id, At: -1}
		if !slices.Equal(impl.WlkOut(list, id), outPlainly(list, id)) {
			t.Fatalf("WlkOut of %d turns the order of the others", id)
		}
		if !slices.Equal(impl.WlkPut(list, w), putPlainly(list, w)) {
			t.Fatalf("WlkPut of %d turns the order of the others", id)
		}
	}
}

func TestP69PutTakesThePlaceOfAllOfItsNumber(t *testing.T) {
	list := []impl.WlkWalker{{Id: 4, At: 0}, {Id: 2, At: 1}, {Id: 4, At: 2}, {Id: 1, At: 3}, {Id: 2, At: 4}}
	got := impl.WlkPut(list, impl.WlkWalker{Id: 2, At: 9})
	want := []impl.WlkWalker{{Id: 2, At: 9}, {Id: 4, At: 0}, {Id: 4, At: 2}, {Id: 1, At: 3}}
	if !slices.Equal(got, want) {
		t.Errorf("WlkPut(%v) is %v", list, got)
	}
	got = impl.WlkPut(list, impl.WlkWalker{Id: 4, At: 9})
	want = []impl.WlkWalker{{Id: 2, At: 1}, {Id: 1, At: 3}, {Id: 2, At: 4}, {Id: 4, At: 9}}
	if !slices.Equal(got, want) {
		t.Errorf("WlkPut(%v) is %v", list, got)
	}
}

func TestP70PutFromTheFrontOrTheBack(t *testing.T) {
	for _, m := range []impl.PlcMap{{Cells: 2, Width: 2}, {Cells: 4, Width: 8}} {
		for _, list := range okWalkers(m, 8) {
			var front, back []impl.WlkWalker
			for i := range list {
				front = impl.WlkPut(front, list[i])
				back = impl.WlkPut(back, list[len(list)-1-i])
			}
			if !slices.Equal(front, list) || !slices.Equal(back, list) {
				t.Fatalf("%v stand as %v and %v", list, front, back)
			}
			if !impl.WlkListOk(m, front) {
				t.Fatalf("%v is not ok", front)
			}
		}
	}
}

func TestWalkersMemory(t *testing.T) {
	lists := append(anyWalkers(9, 300), okWalkers(impl.PlcMap{Cells: 4, Width: 8}, 10)...)
	for _, list := range lists {
		for _, id := range askedNumbers {
			askMemory(t, "WlkOut", list, spareWalker, func(l []impl.WlkWalker) []impl.WlkWalker { return impl.WlkOut(l, id) })
			w := impl.WlkWalker{Id: id, At: 1, Coins: 2, Seq: 3, Last: 4}
			askMemory(t, "WlkPut", list, spareWalker, func(l []impl.WlkWalker) []impl.WlkWalker { return impl.WlkPut(l, w) })
			askUnchanged(t, list, id)
		}
	}
}

// askUnchanged asks that the calls that answer no list leave theirs as it is.
func askUnchanged(t *testing.T, list []impl.WlkWalker, id int) {
	t.Helper()
	short, whole := withRoom(list, spareWalker)
	before := append([]impl.WlkWalker{}, whole...)
	impl.WlkFind(short, id)
	impl.WlkListOk(impl.PlcMap{Cells: 2, Width: 2}, short)
	if !slices.Equal(whole, before) {
		t.Fatalf("WlkFind or WlkListOk wrote into %v", list)
	}
}
