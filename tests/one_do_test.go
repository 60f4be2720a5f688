package tests

import (
	"math/rand"
	"slices"
	"testing"

	"loop.example/landmarch/impl"
)

// kindAndCode is of which Kind an order is, and what came of it.
type kindAndCode struct {
	kind int
	code int
}

// freshCodes is what can come of a fresh order.
var freshCodes = []kindAndCode{
	{1, 1}, {1, 2}, {2, 1}, {2, 3}, {2, 4}, {2, 5}, {3, 1}, {3, 3}, {3, 5}, {4, 1}, {4, 5}, {4, 6}, {5, 1}, {5, 3}, {5, 5}, {5, 7}, {6, 1},
}

func TestP57P58OrdersInTheOneWorld(t *testing.T) {
	fresh, others := map[kindAndCode]int{}, map[int]int{}
	eachOneOrder(t, 401, 60, func(o impl.OneWorld, r impl.OrdOrder) {
		_, code := askOneDo(t, o, r)
		if i := onePlace(o, r.Who); i >= 0 && o.Walkers[i].Here && r.Seq > o.Walkers[i].Walker.Seq {
			fresh[kindAndCode{r.Kind, code}]++
		} else {
			others[code]++
		}
	})
	for _, key := range freshCodes {
		if fresh[key] < 20 {
			t.Errorf("of the Kind %d only %d came to the code %d", key.kind, fresh[key], key.code)
		}
		delete(fresh, key)
	}
	if len(fresh) != 0 {
		t.Errorf("Kinds and codes that are not of the chapter: %v", fresh)
	}
	// What came of orders that are not fresh: any Last, an old one, and who is away.
	for code := range 10 {
		if others[code] < 20 {
			t.Errorf("of orders that are not fresh only %d came to the code %d", others[code], code)
		}
	}
}

// Whatever the order: who is not there is away, and what was done is told.
func TestP58OrdersThatAreNotFresh(t *testing.T) {
	m := impl.PlcMap{Cells: 2, Width: 3}
	for last := range 10 {
		there := turnedOne(bareOne(m), oneAir(1, 0, 5), oneGround(0, 9), func(o *impl.OneWorld) {
			o.Walkers = []impl.OneWalker{
				{Walker: impl.WlkWalker{Id: 2, At: 1, Coins: 5}, Here: true},
				{Walker: impl.WlkWalker{Id: 4, At: 2, Coins: 9, Seq: 5, Last: last}, Here: true},
			}
		})
		away := turnedOne(there, oneHere(4, false))
		for _, row := range []struct{ seq, code int }{{1, impl.CodeOld}, {4, impl.CodeOld}, {5, last}} {
			for _, r := range deedsOf(4, row.seq) {
				if got, code := askOneDo(t, there, r); code != row.code || !sameOne(got, there) {
					t.Fatalf("Last %d: OneDo of %v is %d, %+v", last, r, code, got)
				}
			}
		}
		for _, seq := range []int{1, 5, 6, 900} {
			for _, r := range append(deedsOf(4, seq), deedsOf(9, seq)...) {
				if got, code := askOneDo(t, away, r); code != impl.CodeAway || !sameOne(got, away) {
					t.Fatalf("OneDo of %v, who is not there, is %d, %+v", r, code, got)
				}
			}
		}
	}
}

// cellOfOne is a cell of a one world, with any parcels and numbers that are not spent: who is there, and the ground.
func cellOfOne(r *rand.Rand, o impl.OneWorld, cell int) impl.CllCell {
	c := bareCell(cell)
	for _, w := range o.Walkers {
		if w.Here && w.Walker.At/o.Map.Width == cell {
			c.Walkers = append(c.Walkers, w.Walker)
		}
	}
	c.Ground = o.Ground[cell]
	for side := range 2 {
		there := besidePlainly(o.Map, cell, side)
		if there == -1 {
			continue
		}
		c.Next[side], c.Ins[side] = oneOf(r, 0, 1, 4, 4999), oneOf(r, 0, 3, 5000)
		for n := c.Next[side] - r.Intn(min(c.Next[side], 3)+1); n < c.Next[side]; n++ {
			c.Outs[side] = append(c.Outs[side], parcelInto(r, o.Map, there, n))
		}
	}
	return c
}

// behindTheCell is a one world behind what turned in one of its cells: the last parcel is on its way, or in the air.
func behindTheCell(o impl.OneWorld, before, after impl.CllCell) impl.OneWorld {
	return turnedOne(o, func(o *impl.OneWorld) {
		o.Ground[after.Cell] = after.Ground
		for _, w := range after.Walkers {
			o.Walkers[onePlace(*o, w.Id)] = impl.OneWalker{Walker: w, Here: true}
		}
		for side := range 2 {
			for _, p := range after.Outs[side][len(before.Outs[side]):] {
				if p.Kind == impl.PclWalker {
					o.Walkers[onePlace(*o, p.Walker.Id)] = impl.OneWalker{Walker: p.Walker}
				} else {
					o.Air[after.Cell+2*side-1][1-side] += p.Coins
				}
			}
		}
	})
}

// An order does in the one world what CllDo does in the walker's cell, where there are numbers, and room in the air.
func TestP57AsInTheCell(t *testing.T) {
	codes := map[kindAndCode]int{}
	r := rand.New(rand.NewSource(402))
	eachOneOrder(t, 403, 30, func(o impl.OneWorld, order impl.OrdOrder) {
		// Who is on its way is not in the cell in which its place is; who is nowhere is in none.
		i, cell := onePlace(o, order.Who), r.Intn(o.Map.Cells)
		if i >= 0 {
			cell = o.Walkers[i].Walker.At / o.Map.Width
		}
		if there := besidePlainly(o.Map, cell, order.To); order.Kind == impl.OrdThrow && there >= 0 && o.Air[there][1-order.To]+order.N > 100000 {
			return
		}
		c := cellOfOne(r, o, cell)
		after, code := impl.CllDo(o.Map, c, order)
		got, oneCode := impl.OneDo(o, order)
		if want := behindTheCell(o, c, after); oneCode != code || !sameOne(got, want) {
			t.Fatalf("%v in %+v: CllDo in %+v has the code %d, OneDo %d, and%s", order, o, c, code, oneCode, onesApart(got, want))
		}
		codes[kindAndCode{order.Kind, code}]++
	})
	keys := slices.Clone(freshCodes)
	for kind := 1; kind <= 6; kind++ {
		keys = append(keys, kindAndCode{kind, impl.CodeOld}, kindAndCode{kind, impl.CodeAway})
	}
	for _, key := range keys {
		// The throw for which there is no number, or no room in the air, is where they do not speak of the same.
		if key != (kindAndCode{5, 5}) && codes[key] < 10 {
			t.Errorf("of the Kind %d only %d came to the code %d", key.kind, codes[key], key.code)
		}
	}
}

// backAndForth is a walker 3 and a walker 5 on both sides of the only border.
func backAndForth() impl.OneWorld {
	return turnedOne(bareOne(impl.PlcMap{Cells: 2, Width: 2}), func(o *impl.OneWorld) {
		o.Walkers = []impl.OneWalker{{Walker: impl.WlkWalker{Id: 3, At: 1, Coins: 9}, Here: true}, {Walker: impl.WlkWalker{Id: 5, At: 2}, Here: true}}
	})
}

// No numbers are spent: a walker goes to and fro more often than there are numbers for parcels.
func TestP57NoNumbersAreSpentBySteps(t *testing.T) {
	o := backAndForth()
	for step := range 10010 {
		seq := 1 + step%900
		o.Walkers[0].Walker.Seq = seq - 1
		got, code := impl.OneDo(o, impl.OrdOrder{Who: 3, Seq: seq, Kind: impl.OrdStep, To: 1 - step%2})
		if code != impl.CodeDone || got.Walkers[0] != (impl.OneWalker{Walker: impl.WlkWalker{Id: 3, At: 2 - step%2, Coins: 9, Seq: seq, Last: 1}}) {
			t.Fatalf("the step %d is %+v, %d", step, got, code)
		}
		o = impl.OneLand(got, 3)
	}
}

// Nor are they by throws: coins fly to and fro as often.
func TestP57NoNumbersAreSpentByThrows(t *testing.T) {
	o := backAndForth()
	for throw := range 10010 {
		seq, from := 1+throw%449*2, throw%2
		who := 3 + 2*from
		o.Walkers[from].Walker.Seq = seq - 1
		got, code := impl.OneDo(o, impl.OrdOrder{Who: who, Seq: seq, Kind: impl.OrdThrow, To: 1 - from, N: 9})
		if code != impl.CodeDone || got.Air[1-from][from] != 9 || got.Walkers[from].Walker.Coins != 0 {
			t.Fatalf("the throw %d is %+v, %d", throw, got, code)
		}
		got = impl.OneDown(got, 1-from, from, 9)
		got.Walkers[1-from].Walker.Seq = 0
		if o, code = impl.OneDo(got, impl.OrdOrder{Who: 8 - who, Seq: seq, Kind: impl.OrdPick, N: 9}); code != impl.CodeDone || impl.OneCoins(o) != 9 {
			t.Fatalf("behind the throw %d there is %+v, %d", throw, o, code)
		}
	}
}

// askEitherOrder asks for P59 of two orders of two walkers.
func askEitherOrder(t *testing.T, o impl.OneWorld, a, b impl.OrdOrder) (int, int) {
	t.Helper()
	first, codeA := impl.OneDo(o, a)
	first, codeB := impl.OneDo(first, b)
	second, otherB := impl.OneDo(o, b)
	second, otherA := impl.OneDo(second, a)
	if codeA != otherA || codeB != otherB || !sameOne(first, second) {
		t.Fatalf("%v and %v in %+v have the codes %d and %d, the other way round %d and %d, and%s", a, b, o, codeA, codeB, otherA, otherB, onesApart(second, first))
	}
	return codeA, codeB
}

// twoCells is whether two walkers' places are in two cells.
func twoCells(o impl.OneWorld, a, b impl.OneWalker) bool {
	return a.Walker.At/o.Map.Width != b.Walker.At/o.Map.Width
}

// nextDeeds is all orders of a walker with its next number.
func nextDeeds(w impl.OneWalker) []impl.OrdOrder {
	return deedsOf(w.Walker.Id, w.Walker.Seq+1)
}

func TestP59TwoOrdersInTwoCells(t *testing.T) {
	codes := map[[2]kindAndCode]int{}
	eachOne(t, 404, 40, func(r *rand.Rand, o impl.OneWorld) {
		for i, a := range o.Walkers {
			for _, b := range o.Walkers[i+1:] {
				if !twoCells(o, a, b) {
					continue
				}
				ordersA, ordersB := nextDeeds(a), nextDeeds(b)
				for range 60 {
					x, y := ordersA[r.Intn(len(ordersA))], ordersB[r.Intn(len(ordersB))]
					codeX, codeY := askEitherOrder(t, o, x, y)
					codes[[2]kindAndCode{{x.Kind, codeX}, {y.Kind, codeY}}]++
				}
			}
		}
	})
	for _, pair := range [][2]kindAndCode{
		{{5, 1}, {5, 1}}, {{2, 4}, {2, 4}}, {{2, 1}, {2, 1}}, {{3, 1}, {4, 1}}, {{6, 9}, {2, 1}}, {{5, 5}, {5, 7}}, {{2, 4}, {3, 1}},
	} {
		if codes[pair] == 0 && codes[[2]kindAndCode{pair[1], pair[0]}] == 0 {
			t.Errorf("no two orders are %v", pair)
		}
	}
}

// fewDeeds is the next orders of a walker of few numbers of coins.
func fewDeeds(w impl.OneWalker) []impl.OrdOrder {
	return slices.DeleteFunc(nextDeeds(w), func(r impl.OrdOrder) bool {
		return r.N == 4 || r.N > 5 && r.N < 9 || r.Kind == impl.OrdGive && (r.To == 1 || r.To == 3 || r.To == 7)
	})
}

// All pairs of orders at one border, from both sides of it: who gives to the one who comes or goes, who steps past the other one, throws to and fro, with room in the air for one of them and for none.
func TestP59AtOneBorder(t *testing.T) {
	m := impl.PlcMap{Cells: 3, Width: 2}
	for _, air := range []int{0, 99998, 99999, 100000} {
		for _, coins := range []int{0, 3, 97} {
			o := turnedOne(bareOne(m), func(o *impl.OneWorld) {
				o.Walkers = []impl.OneWalker{
					{Walker: impl.WlkWalker{Id: 2, At: 1, Coins: coins, Seq: 7, Last: 3}, Here: true},
					{Walker: impl.WlkWalker{Id: 5, At: 1, Coins: 2}},
					{Walker: impl.WlkWalker{Id: 6, At: 2, Coins: coins}, Here: true},
					{Walker: impl.WlkWalker{Id: 8, At: 3, Coins: 4}, Here: true},
					{Walker: impl.WlkWalker{Id: 9, At: 4, Coins: 4}, Here: true},
				}
				for cell := range 3 {
					o.Ground[cell] = 898
					o.Air[cell] = []int{air, air}
				}
			})
			for i, a := range o.Walkers {
				for _, b := range o.Walkers[i+1:] {
					if !twoCells(o, a, b) {
						continue
					}
					for _, x := range fewDeeds(a) {
						for _, y := range fewDeeds(b) {
							askEitherOrder(t, o, x, y)
						}
					}
				}
			}
		}
	}
}

// The first and the last place of all: no step and no throw leads out of the map.
func TestP57TheEndsOfTheMap(t *testing.T) {
	for _, m := range okMaps() {
		end := m.Cells*m.Width - 1
		o := turnedOne(bareOne(m), func(o *impl.OneWorld) {
			o.Walkers = []impl.OneWalker{{Walker: impl.WlkWalker{Id: 1, At: 0, Coins: 9}, Here: true}, {Walker: impl.WlkWalker{Id: 2, At: end, Coins: 9}, Here: true}}
		})
		for who, side := range map[int]int{1: 0, 2: 1} {
			if got, code := askOneDo(t, o, impl.OrdOrder{Who: who, Seq: 1, Kind: impl.OrdStep, To: side}); code != impl.CodeWall || got.Walkers[who-1].Walker.At != end*side || !got.Walkers[who-1].Here {
				t.Errorf("out of %v the walker %d steps: %+v, %d", m, who, got, code)
			}
			if got, code := askOneDo(t, o, impl.OrdOrder{Who: who, Seq: 1, Kind: impl.OrdThrow, To: side, N: 9}); code != impl.CodeInner || slices.Max(slices.Concat(got.Air...)) != 0 {
				t.Errorf("out of %v the walker %d throws: %+v, %d", m, who, got, code)
			}
		}
	}
}
