package tests

import (
	"math/rand"
	"slices"
	"testing"

	"loop.example/landmarch/impl"
)

// parcelNumbers is N at its ends, one past them, where its text grows longer, and far numbers.
func parcelNumbers() []int {
	return append([]int{-1, 0, 1, 9, 10, 99, 100, 999, 1000, 4998, 4999, 5000, 5001}, farNumbers...)
}

// parcelWalkers is walkers that are nothing, at the ends of their bounds, and one past each of them.
func parcelWalkers() []impl.WlkWalker {
	walkers := append([]impl.WlkWalker{{}, {At: 1}, {Id: 1, At: -1}, {Id: 1, At: 3}, {Id: 1, At: 4}, {Id: 1, At: 32}}, endWalkers()...)
	for _, bound := range walkerBounds {
		for _, n := range []int{bound.low - 1, bound.high + 1} {
			w := impl.WlkWalker{Id: 5, At: 1, Coins: 7, Seq: 8, Last: 1}
			bound.set(&w, n)
			walkers = append(walkers, w)
		}
	}
	return walkers
}

// manyParcels is parcels with each number in and out of its bounds, in all ways together.
func manyParcels(each func(impl.PclParcel)) {
	for _, n := range parcelNumbers() {
		for _, kind := range numbersAround(1, 2) {
			for _, w := range parcelWalkers() {
				for _, coins := range numbersAround(0, 9) {
					each(impl.PclParcel{N: n, Kind: kind, Walker: w, Coins: coins})
				}
			}
		}
	}
}

// parcelOkPlainly is the document's words.
func parcelOkPlainly(m impl.PlcMap, p impl.PclParcel) bool {
	if !impl.PlcOk(m) || p.N < 0 || p.N > 4999 {
		return false
	}
	switch p.Kind {
	case 1:
		return impl.WlkOk(m, p.Walker) && p.Coins == 0
	case 2:
		return p.Walker == impl.WlkWalker{} && p.Coins >= 1 && p.Coins <= 9
	}
	return false
}

func TestP75ParcelsThatAreOk(t *testing.T) {
	maps := []impl.PlcMap{{Cells: 2, Width: 2}, {Cells: 4, Width: 8}, {}, {Cells: 1, Width: 2}, {Cells: 5, Width: 8}, {Cells: 4, Width: 9}}
	manyParcels(func(p impl.PclParcel) {
		for _, m := range maps {
			if got, want := impl.PclOk(m, p), parcelOkPlainly(m, p); got != want {
				t.Fatalf("PclOk(%v, %+v) is %v", m, p, got)
			}
		}
	})
}

func TestP75EndsOfTheBoundsOfParcels(t *testing.T) {
	m := impl.PlcMap{Cells: 2, Width: 3}
	w := impl.WlkWalker{Id: 1, At: 5}
	for _, row := range []struct {
		why  string
		p    impl.PclParcel
		want bool
	}{
		{"nothing", impl.PclParcel{}, false},
		{"a walker", impl.PclParcel{N: 0, Kind: impl.PclWalker, Walker: w}, true},
		{"coins", impl.PclParcel{N: 0, Kind: impl.PclCoins, Coins: 1}, true},
		{"below N", impl.PclParcel{N: -1, Kind: impl.PclCoins, Coins: 1}, false},
		{"the last N", impl.PclParcel{N: impl.PclMaxN - 1, Kind: impl.PclWalker, Walker: w}, true},
		{"past N", impl.PclParcel{N: impl.PclMaxN, Kind: impl.PclWalker, Walker: w}, false},
		{"coins past N", impl.PclParcel{N: impl.PclMaxN, Kind: impl.PclCoins, Coins: 1}, false},
		{"no coins", impl.PclParcel{N: 0, Kind: impl.PclCoins}, false},
		{"the most coins", impl.PclParcel{N: 0, Kind: impl.PclCoins, Coins: impl.OrdMaxN}, true},
		{"more coins", impl.PclParcel{N: 0, Kind: impl.PclCoins, Coins: impl.OrdMaxN + 1}, false},
		{"coins below none", impl.PclParcel{N: 0, Kind: impl.PclCoins, Coins: -1}, false},
		{"no walker", impl.PclParcel{N: 0, Kind: impl.PclWalker}, false},
		{"a walker past the map", impl.PclParcel{N: 0, Kind: impl.PclWalker, Walker: impl.WlkWalker{Id: 1, At: 6}}, false},
		{"a walker with coins beside it", impl.PclParcel{N: 0, Kind: impl.PclWalker, Walker: w, Coins: 1}, false},
		{"coins with a walker beside them", impl.PclParcel{N: 0, Kind: impl.PclCoins, Walker: w, Coins: 1}, false},
		{"coins with something of a walker", impl.PclParcel{N: 0, Kind: impl.PclCoins, Walker: impl.WlkWalker{Last: 1}, Coins: 1}, false},
		{"no Kind", impl.PclParcel{N: 0, Kind: 0, Walker: w}, false},
		{"no Kind, of coins", impl.PclParcel{N: 0, Kind: 0, Coins: 1}, false},
		{"past the Kinds", impl.PclParcel{N: 0, Kind: 3, Coins: 1}, false},
	} {
		if got := impl.PclOk(m, row.p); got != row.want {
			t.Errorf("%s: PclOk(%+v) is %v", row.why, row.p, got)
		}
		for _, bad := range badMaps() {
			if impl.PclOk(bad, row.p) {
				t.Errorf("%s: PclOk(%v, %+v) is true", row.why, bad, row.p)
			}
		}
	}
}

// okParcels is so many parcels that are ok on the map, with numbers up to next - 1.
func okParcels(r *rand.Rand, m impl.PlcMap, count, next int) []impl.PclParcel {
	var list []impl.PclParcel
	for n := next - count; n < next; n++ {
		p := impl.PclParcel{N: n, Kind: impl.PclCoins, Coins: 1 + r.Intn(9)}
		if r.Intn(2) == 0 {
			p = impl.PclParcel{N: n, Kind: impl.PclWalker, Walker: impl.WlkWalker{Id: 1 + r.Intn(9), At: r.Intn(m.Cells * m.Width), Coins: r.Intn(100), Seq: r.Intn(901), Last: r.Intn(10)}}
		}
		list = append(list, p)
	}
	return list
}

// eachOkList is lists that are ok, with next at both its ends and between; none at all, as many as next, and between.
func eachOkList(m impl.PlcMap, each func(list []impl.PclParcel, next int)) {
	r := rand.New(rand.NewSource(31))
	for _, next := range []int{0, 1, 2, 3, 6, 10, 11, 100, 4998, 4999, 5000} {
		for count := 0; count <= 6 && count <= next; count++ {
			each(okParcels(r, m, count, next), next)
		}
	}
	each(okParcels(r, m, 10, 10), 10)
	each(okParcels(r, m, impl.PclMaxN, impl.PclMaxN), impl.PclMaxN)
}

func TestP75ListsOfParcelsThatAreOk(t *testing.T) {
	for _, m := range []impl.PlcMap{{Cells: 2, Width: 2}, {Cells: 4, Width: 8}} {
		eachOkList(m, func(list []impl.PclParcel, next int) {
			if !impl.PclListOk(m, list, next) {
				t.Fatalf("PclListOk(%v, %v, %d) is false", m, list, next)
			}
			for _, bad := range badMaps() {
				if impl.PclListOk(bad, list, next) {
					t.Fatalf("PclListOk(%v, %v, %d) is true", bad, list, next)
				}
			}
			for _, other := range append([]int{-1, 0, next - 1, next + 1, impl.PclMaxN, impl.PclMaxN + 1}, farNumbers...) {
				if len(list) > 0 && other != next && impl.PclListOk(m, list, other) {
					t.Fatalf("PclListOk(%v, %v, %d) is true: next is %d", m, list, other, next)
				}
			}
		})
	}
}

func TestP75NoParcelsAreOkUpToAnyNext(t *testing.T) {
	for _, next := range numbersAround(0, impl.PclMaxN) {
		for _, list := range [][]impl.PclParcel{nil, {}, make([]impl.PclParcel, 0, 3)} {
			if got, want := impl.PclListOk(impl.PlcMap{Cells: 3, Width: 4}, list, next), next >= 0 && next <= 5000; got != want {
				t.Fatalf("PclListOk of no parcels, %d, is %v", next, got)
			}
			for _, bad := range []impl.PlcMap{{}, {Cells: 1, Width: 4}, {Cells: 3, Width: 9}} {
				if impl.PclListOk(bad, list, next) {
					t.Fatalf("PclListOk of no parcels on %v is true", bad)
				}
			}
		}
	}
}

func TestP75OneParcelMoreThanNext(t *testing.T) {
	m := impl.PlcMap{Cells: 2, Width: 2}
	r := rand.New(rand.NewSource(32))
	for _, next := range []int{0, 1, 2, 5, impl.PclMaxN} {
		fromBelow := okParcels(r, m, next+1, next)
		toNext := okParcels(r, m, next+1, next+1)
		first := append(okParcels(r, m, min(next, 1), min(next, 1)), okParcels(r, m, next, next)...)
		for _, list := range [][]impl.PclParcel{fromBelow, toNext, first} {
			if len(list) > next && impl.PclListOk(m, list, next) {
				t.Errorf("%d parcels are ok up to %d", len(list), next)
			}
		}
	}
}

func TestP75ListsOfParcelsThatAreNotOk(t *testing.T) {
	m := impl.PlcMap{Cells: 3, Width: 4}
	eachOkList(m, func(list []impl.PclParcel, next int) {
		if len(list) > 10 {
			return
		}
		for i := range list {
			for why, wrong := range wrongLists(list, i) {
				if impl.PclListOk(m, wrong, next) {
					t.Fatalf("PclListOk(%v, %d) is true: %s at %d", wrong, next, why, i)
				}
			}
		}
	})
}

// wrongLists is what is wrong with a list when something at a place is turned.
func wrongLists(list []impl.PclParcel, i int) map[string][]impl.PclParcel {
	turned := func(turn func(*impl.PclParcel)) []impl.PclParcel {
		wrong := slices.Clone(list)
		turn(&wrong[i])
		return wrong
	}
	wrong := map[string][]impl.PclParcel{
		"a number too high": turned(func(p *impl.PclParcel) { p.N++ }),
		"a number too low":  turned(func(p *impl.PclParcel) { p.N-- }),
		"another Kind":      turned(func(p *impl.PclParcel) { p.Kind = 3 - p.Kind }),
		"no Kind":           turned(func(p *impl.PclParcel) { p.Kind = 0 }),
		"too many coins":    turned(func(p *impl.PclParcel) { p.Coins = 10 }),
		"coins below none":  turned(func(p *impl.PclParcel) { p.Coins = -1 }),
		"a wrong walker":    turned(func(p *impl.PclParcel) { p.Walker.At = 12 }),
		"nothing":           turned(func(p *impl.PclParcel) { *p = impl.PclParcel{N: p.N} }),
		"one twice":         slices.Insert(slices.Clone(list), i, list[i]),
	}
	if i > 0 {
		wrong["one that is left out"] = slices.Delete(slices.Clone(list), i, i+1)
		wrong["two the wrong way round"] = slices.Clone(list)
		wrong["two the wrong way round"][i-1], wrong["two the wrong way round"][i] = list[i], list[i-1]
	}
	return wrong
}

// anyParcels is lists of parcels, ok or not: of one number several, in any order.
func anyParcels(seed int64, count int) [][]impl.PclParcel {
	r := rand.New(rand.NewSource(seed))
	numbers := append([]int{-2, -1, 0, 1, 2, 3, 4, 5, 6, 4999, 5000, 5001}, farNumbers...)
	lists := [][]impl.PclParcel{nil, {}}
	for len(lists) < count {
		var list []impl.PclParcel
		for range r.Intn(12) {
			list = append(list, impl.PclParcel{N: numbers[r.Intn(len(numbers))], Kind: r.Intn(4), Walker: anyWalker(r), Coins: r.Intn(14) - 2})
		}
		lists = append(lists, list)
	}
	return lists
}

// fromPlainly is the document's words, place by place.
func fromPlainly(list []impl.PclParcel, n int) []impl.PclParcel {
	return slices.DeleteFunc(slices.Clone(list), func(p impl.PclParcel) bool { return p.N < n })
}

func TestP75FromANumberOnIsAnEnd(t *testing.T) {
	m := impl.PlcMap{Cells: 3, Width: 4}
	eachOkList(m, func(list []impl.PclParcel, next int) {
		first := next - len(list)
		for _, n := range append([]int{-1, 0, 1, first - 1, first, first + 1, first + 2, next - 2, next - 1, next, next + 1, 4999, 5000, 5001}, farNumbers...) {
			got := impl.PclFrom(list, n)
			want := 0
			for number := first; number < next; number++ {
				if number >= n {
					want++
				}
			}
			if len(got) != want || !slices.Equal(got, list[len(list)-want:]) {
				t.Fatalf("PclFrom of %d parcels up to %d from %d on has %d", len(list), next, n, len(got))
			}
			if !impl.PclListOk(m, got, next) {
				t.Fatalf("PclFrom of %d parcels up to %d from %d on is not ok", len(list), next, n)
			}
		}
	})
}

func TestP75FromOfAnyParcels(t *testing.T) {
	for _, list := range anyParcels(33, 2000) {
		for _, n := range append(numbersAround(0, 6), 4999, 5000, 5001, 5002) {
			if got, want := impl.PclFrom(list, n), fromPlainly(list, n); !slices.Equal(got, want) {
				t.Fatalf("PclFrom(%v, %d) is %v, not %v", list, n, got, want)
			}
		}
	}
}

func TestP75ParcelsMemory(t *testing.T) {
	m := impl.PlcMap{Cells: 3, Width: 4}
	lists := anyParcels(34, 300)
	eachOkList(m, func(list []impl.PclParcel, next int) {
		lists = append(lists, list)
		short, whole := withRoom(list, spareParcel)
		before := slices.Clone(whole)
		if !impl.PclListOk(m, short, next) || !slices.Equal(whole, before) {
			t.Fatalf("PclListOk hangs on spare room, or wrote into %v", list)
		}
	})
	for _, list := range lists {
		for _, n := range append(numbersAround(0, 6), 4998, 5000) {
			askMemory(t, "PclFrom", list, spareParcel, func(l []impl.PclParcel) []impl.PclParcel { return impl.PclFrom(l, n) })
		}
	}
}
