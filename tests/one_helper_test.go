package tests

import (
	"math/rand"
	"testing"

	"loop.example/landmarch/impl"
)

// oneTurn is what turns in a one world.
type oneTurn = func(*impl.OneWorld)

// turnedOne is the one world with something turned in it.
func turnedOne(o impl.OneWorld, turns ...oneTurn) impl.OneWorld {
	o = cloneOne(o)
	for _, turn := range turns {
		turn(&o)
	}
	return o
}

// bareOne is the one world of a map with nobody in it, and noughts.
func bareOne(m impl.PlcMap) impl.OneWorld {
	o := impl.OneWorld{Map: m, Ground: make([]int, m.Cells)}
	for range m.Cells {
		o.Air = append(o.Air, make([]int, 2))
	}
	return o
}

// Turns of a one world.
func oneGround(cell, n int) oneTurn    { return func(o *impl.OneWorld) { o.Ground[cell] = n } }
func oneAir(cell, side, n int) oneTurn { return func(o *impl.OneWorld) { o.Air[cell][side] = n } }

func oneCoins(who, n int) oneTurn {
	return func(o *impl.OneWorld) { o.Walkers[onePlace(*o, who)].Walker.Coins = n }
}

func oneAt(who, at int) oneTurn {
	return func(o *impl.OneWorld) { o.Walkers[onePlace(*o, who)].Walker.At = at }
}

func oneHere(who int, here bool) oneTurn {
	return func(o *impl.OneWorld) { o.Walkers[onePlace(*o, who)].Here = here }
}

// oneBoth is several turns in order.
func oneBoth(turns ...oneTurn) oneTurn {
	return func(o *impl.OneWorld) {
		for _, turn := range turns {
			turn(o)
		}
	}
}

// someOne is a one world that is ok, its numbers often at the ends of their bounds; most walkers are there.
func someOne(r *rand.Rand, m impl.PlcMap) impl.OneWorld {
	o := bareOne(m)
	for cell := range m.Cells {
		o.Ground[cell] = oneOf(r, 0, 1, 4, 8, 9, 450, 891, 895, 899, 900)
		for side := range 2 {
			o.Air[cell][side] = oneOf(r, 0, 0, 1, 5, 9, 450, 50000, 99991, 99995, 99999, 100000)
		}
	}
	most := oneOf(r, 0, 1, 2, 9, 9, 9)
	for id := 1; id <= 9 && len(o.Walkers) < most; id++ {
		if r.Intn(3) > 0 {
			o.Walkers = append(o.Walkers, impl.OneWalker{Walker: walkerIn(r, m, r.Intn(m.Cells), id), Here: r.Intn(4) > 0})
		}
	}
	return o
}

// eachOne is so many one worlds that are ok for each of some maps.
func eachOne(t *testing.T, seed int64, count int, each func(r *rand.Rand, o impl.OneWorld)) {
	t.Helper()
	r := rand.New(rand.NewSource(seed))
	for _, m := range []impl.PlcMap{{Cells: 2, Width: 2}, {Cells: 3, Width: 2}, {Cells: 3, Width: 4}, {Cells: 4, Width: 8}} {
		for range count {
			o := someOne(r, m)
			if !oneOkPlainly(o) {
				t.Fatalf("the test's own %+v is not ok", o)
			}
			each(r, o)
		}
	}
}

// eachOneOrder is, of so many one worlds, orders of all numbers: for who is there or on its way those of one Seq, the next one mostly.
func eachOneOrder(t *testing.T, seed int64, count int, each func(o impl.OneWorld, r impl.OrdOrder)) {
	t.Helper()
	eachOne(t, seed, count, func(r *rand.Rand, o impl.OneWorld) {
		for who := 1; who <= 9; who++ {
			seq := 1
			if i := onePlace(o, who); i >= 0 {
				was := o.Walkers[i].Walker.Seq
				seq = max(1, oneOf(r, was-1, was, was+1, was+1, was+1, was+1, 900))
			}
			for _, order := range deedsOf(who, seq) {
				each(o, order)
			}
		}
	})
}

// askOne asks whether a one world is ok, and how many coins it has, by the words.
func askOne(t *testing.T, o impl.OneWorld) bool {
	t.Helper()
	ok := oneOkPlainly(o)
	if got := impl.OneOk(o); got != ok {
		t.Fatalf("OneOk(%+v) is %v", o, got)
	}
	coins := 0
	if ok {
		coins = oneCoinsPlainly(o)
	}
	if got := impl.OneCoins(o); got != coins {
		t.Fatalf("OneCoins(%+v) is %d, not %d", o, got, coins)
	}
	return ok
}

// askOneDo asks that an order does in a one world what the words say, and for P57 and P58.
func askOneDo(t *testing.T, o impl.OneWorld, r impl.OrdOrder) (impl.OneWorld, int) {
	t.Helper()
	got, code := impl.OneDo(o, r)
	if want, wantCode := oneDoPlainly(o, r); code != wantCode || !sameOne(got, want) {
		t.Fatalf("OneDo(%+v, %v) is %d, not %d, and%s", o, r, code, wantCode, onesApart(got, want))
	}
	askOneDoTurns(t, o, r, got, code)
	askOneDoTwice(t, o, r, got, code)
	return got, code
}

// askOneDoTurns asks for P57.
func askOneDoTurns(t *testing.T, o impl.OneWorld, r impl.OrdOrder, got impl.OneWorld, code int) {
	t.Helper()
	if !askOne(t, got) || got.Map != o.Map || len(got.Walkers) != len(o.Walkers) || impl.OneCoins(got) != impl.OneCoins(o) {
		t.Fatalf("behind %v in %+v there are not as many: %+v", r, o, got)
	}
	for i, was := range o.Walkers {
		is := got.Walkers[i]
		gift := r.Kind == impl.OrdGive && code == impl.CodeDone && was.Walker.Id == r.To
		if is.Walker.Id != was.Walker.Id || was.Walker.Id != r.Who && !gift && is != was {
			t.Fatalf("behind %v in %+v another one turns: %+v, was %+v", r, o, is, was)
		}
	}
}

// askOneDoTwice asks for P58.
func askOneDoTwice(t *testing.T, o impl.OneWorld, r impl.OrdOrder, once impl.OneWorld, code int) {
	t.Helper()
	twice, again := impl.OneDo(once, r)
	if !sameOne(once, twice) {
		t.Fatalf("%v twice in %+v is not as once: %s", r, o, onesApart(twice, once))
	}
	i := onePlace(once, r.Who)
	if there := i >= 0 && once.Walkers[i].Here; there && again != code || !there && again != impl.CodeAway {
		t.Fatalf("%v in %+v has the code %d, and then %d", r, o, code, again)
	}
}
