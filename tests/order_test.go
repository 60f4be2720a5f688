package tests

import (
	"math"
	"strconv"
	"testing"

	"loop.example/landmarch/impl"
)

// everyDeed is the document's table of orders written out: each order that is ok, with Seq 0, and what stands behind Seq in its text.
func everyDeed() map[impl.OrdOrder]string {
	deeds := map[impl.OrdOrder]string{}
	for who := 1; who <= 9; who++ {
		deeds[impl.OrdOrder{Who: who, Kind: 1, To: 0}] = "step left"
		deeds[impl.OrdOrder{Who: who, Kind: 1, To: 1}] = "step right"
		deeds[impl.OrdOrder{Who: who, Kind: 6}] = "rest"
		for n := 1; n <= 9; n++ {
			coins := strconv.Itoa(n)
			deeds[impl.OrdOrder{Who: who, Kind: 3, N: n}] = "drop " + coins
			deeds[impl.OrdOrder{Who: who, Kind: 4, N: n}] = "pick " + coins
			deeds[impl.OrdOrder{Who: who, Kind: 5, To: 0, N: n}] = "throw left " + coins
			deeds[impl.OrdOrder{Who: who, Kind: 5, To: 1, N: n}] = "throw right " + coins
			for to := 1; to <= 9; to++ {
				if to != who {
					deeds[impl.OrdOrder{Who: who, Kind: 2, To: to, N: n}] = "give " + strconv.Itoa(to) + " " + coins
				}
			}
		}
	}
	return deeds
}

// numbersAtSeq is Seq at its ends, one past them, where its text grows longer, and far numbers.
func numbersAtSeq() []int {
	return append([]int{-1, 0, 1, 2, 9, 10, 99, 100, 899, 900, 901}, farNumbers...)
}

// manyOrders is orders with each number in and out of its bounds, in all ways together.
func manyOrders(each func(impl.OrdOrder)) {
	small := numbersAround(0, 9)
	for _, who := range small {
		for _, seq := range numbersAtSeq() {
			for _, kind := range numbersAround(1, 6) {
				for _, to := range small {
					for _, n := range small {
						each(impl.OrdOrder{Who: who, Seq: seq, Kind: kind, To: to, N: n})
					}
				}
			}
		}
	}
}

func TestP72OrdersThatAreOk(t *testing.T) {
	deeds := everyDeed()
	count := 0
	manyOrders(func(o impl.OrdOrder) {
		deed := o
		deed.Seq = 0
		_, has := deeds[deed]
		want := has && o.Seq >= 1 && o.Seq <= 900
		if got := impl.OrdOk(o); got != want {
			t.Fatalf("OrdOk(%+v) is %v", o, got)
		}
		if got := impl.OrdText(o) != ""; got != want {
			t.Fatalf("OrdText(%+v) is %q", o, impl.OrdText(o))
		}
		if want {
			count++
		}
	})
	if count != 8*len(deeds) {
		t.Errorf("%d of the orders were ok", count)
	}
}

func TestP72EndsOfTheBoundsOfOrders(t *testing.T) {
	for _, row := range []struct {
		why  string
		o    impl.OrdOrder
		want bool
	}{
		{"nothing", impl.OrdOrder{}, false},
		{"the first Who", impl.OrdOrder{Who: 1, Seq: 1, Kind: impl.OrdRest}, true},
		{"below Who", impl.OrdOrder{Who: 0, Seq: 1, Kind: impl.OrdRest}, false},
		{"the last Who", impl.OrdOrder{Who: impl.WlkMaxId, Seq: 1, Kind: impl.OrdRest}, true},
		{"past Who", impl.OrdOrder{Who: impl.WlkMaxId + 1, Seq: 1, Kind: impl.OrdRest}, false},
		{"below Seq", impl.OrdOrder{Who: 1, Seq: 0, Kind: impl.OrdRest}, false},
		{"the last Seq", impl.OrdOrder{Who: 1, Seq: impl.WlkMaxSeq, Kind: impl.OrdRest}, true},
		{"past Seq", impl.OrdOrder{Who: 1, Seq: impl.WlkMaxSeq + 1, Kind: impl.OrdRest}, false},
		{"below the sides", impl.OrdOrder{Who: 1, Seq: 1, Kind: impl.OrdStep, To: -1}, false},
		{"past the sides", impl.OrdOrder{Who: 1, Seq: 1, Kind: impl.OrdStep, To: 2}, false},
		{"a throw past the sides", impl.OrdOrder{Who: 1, Seq: 1, Kind: impl.OrdThrow, To: 2, N: 1}, false},
		{"a throw of no coins", impl.OrdOrder{Who: 1, Seq: 1, Kind: impl.OrdThrow, To: 1, N: 0}, false},
		{"a step of coins", impl.OrdOrder{Who: 1, Seq: 1, Kind: impl.OrdStep, To: 1, N: 1}, false},
		{"a gift to another", impl.OrdOrder{Who: 1, Seq: 1, Kind: impl.OrdGive, To: 2, N: 1}, true},
		{"a gift to its own walker", impl.OrdOrder{Who: 2, Seq: 1, Kind: impl.OrdGive, To: 2, N: 1}, false},
		{"a gift to nobody", impl.OrdOrder{Who: 2, Seq: 1, Kind: impl.OrdGive, To: 0, N: 1}, false},
		{"a gift past the walkers", impl.OrdOrder{Who: 2, Seq: 1, Kind: impl.OrdGive, To: impl.WlkMaxId + 1, N: 1}, false},
		{"the greatest gift", impl.OrdOrder{Who: 2, Seq: 1, Kind: impl.OrdGive, To: impl.WlkMaxId, N: impl.OrdMaxN}, true},
		{"a greater gift", impl.OrdOrder{Who: 2, Seq: 1, Kind: impl.OrdGive, To: impl.WlkMaxId, N: impl.OrdMaxN + 1}, false},
		{"a drop to somebody", impl.OrdOrder{Who: 1, Seq: 1, Kind: impl.OrdDrop, To: 1, N: 1}, false},
		{"a pick from below", impl.OrdOrder{Who: 1, Seq: 1, Kind: impl.OrdPick, To: -1, N: 1}, false},
		{"a pick of coins below none", impl.OrdOrder{Who: 1, Seq: 1, Kind: impl.OrdPick, N: -1}, false},
		{"a rest to somebody", impl.OrdOrder{Who: 1, Seq: 1, Kind: impl.OrdRest, To: 1}, false},
		{"a rest of coins", impl.OrdOrder{Who: 1, Seq: 1, Kind: impl.OrdRest, N: 1}, false},
		{"no Kind", impl.OrdOrder{Who: 1, Seq: 1, Kind: 0}, false},
		{"past the Kinds", impl.OrdOrder{Who: 1, Seq: 1, Kind: impl.OrdRest + 1}, false},
		{"far past the Kinds", impl.OrdOrder{Who: 1, Seq: 1, Kind: math.MaxInt}, false},
	} {
		if got := impl.OrdOk(row.o); got != row.want {
			t.Errorf("%s: OrdOk(%+v) is %v", row.why, row.o, got)
		}
		if got := impl.OrdText(row.o) != ""; got != row.want {
			t.Errorf("%s: OrdText(%+v) is %q", row.why, row.o, impl.OrdText(row.o))
		}
	}
}
