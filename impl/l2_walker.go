package impl

import (
	"cmp"
	"slices"
	"strconv"
	"strings"
)

// Limits of walkers.
const (
	WlkMaxId    = 9
	WlkMaxCoins = 99
	WlkMaxSeq   = 900
	WlkMaxCode  = 9
)

// maxTextSize is how many bytes a text that is read may have.
const maxTextSize = 100

// walkerWords is how many words the text of a walker has: five names, each with its number.
const walkerWords = 10

// WlkWalker is a walker: where it is, how many coins it has, its last order and what came of that.
type WlkWalker struct {
	Id    int
	At    int
	Coins int
	Seq   int
	Last  int
}

// placed is a thing and where it stood in its list; a map by numbers forgets that, and in a list that is not ok a number tells nothing of it.
type placed[T any] struct {
	thing T
	place int
}

// WlkOk says whether a walker is ok.
func WlkOk(m PlcMap, w WlkWalker) bool {
	return w.inBounds() && PlcCell(m, w.At) != PlcNone
}

// WlkListOk says whether walkers are ok, and in order; it does not ask for the map by itself, so that no walkers are ok on any.
func WlkListOk(m PlcMap, list []WlkWalker) bool {
	for i, w := range list {
		if !WlkOk(m, w) || i > 0 && list[i-1].Id >= w.Id {
			return false
		}
	}
	return true
}

// WlkFind is the walker with a number.
func WlkFind(list []WlkWalker, id int) (WlkWalker, bool) {
	same := byNumber(list, WlkWalker.number)[id]
	if len(same) == 0 {
		return WlkWalker{}, false
	}
	return same[0].thing, true
}

// WlkOut is the walkers without those of a number.
func WlkOut(list []WlkWalker, id int) []WlkWalker {
	others := byNumber(list, WlkWalker.number)
	delete(others, id)
	return inOrder(others)
}

// WlkPut is the walkers with one put among them, in the place of those of its number.
func WlkPut(list []WlkWalker, w WlkWalker) []WlkWalker {
	others := WlkOut(list, w.Id)
	at := slices.IndexFunc(others, func(other WlkWalker) bool { return other.Id > w.Id })
	if at < 0 {
		at = len(others)
	}
	return slices.Insert(others, at, w)
}

// WlkText writes a walker.
func WlkText(w WlkWalker) string {
	if !w.inBounds() || !within(w.At, 0, PlcMaxCells*PlcMaxWidth-1) {
		return ""
	}
	return "walker " + strconv.Itoa(w.Id) +
		" at " + strconv.Itoa(w.At) +
		" coins " + strconv.Itoa(w.Coins) +
		" order " + strconv.Itoa(w.Seq) +
		" code " + strconv.Itoa(w.Last)
}

// WlkRead reads a walker.
func WlkRead(s string) (WlkWalker, bool) {
	if len(s) > maxTextSize {
		return WlkWalker{}, false
	}
	words := strings.Split(s, " ")
	if len(words) != walkerWords {
		return WlkWalker{}, false
	}
	w := WlkWalker{
		Id:    looseNumber(words[1]),
		At:    looseNumber(words[3]),
		Coins: looseNumber(words[5]),
		Seq:   looseNumber(words[7]),
		Last:  looseNumber(words[9]),
	}
	if WlkText(w) != s {
		return WlkWalker{}, false
	}
	return w, true
}

// looseNumber reads a word without asking whether it is a number, or well written: who calls it holds the whole text against what was read.
func looseNumber(word string) int {
	n, _ := strconv.Atoi(word)
	return n
}

// inBounds says whether all of a walker's numbers are in their bounds but its place, which hangs on the map.
func (w WlkWalker) inBounds() bool {
	return within(w.Id, 1, WlkMaxId) &&
		within(w.Coins, 0, WlkMaxCoins) &&
		within(w.Seq, 0, WlkMaxSeq) &&
		within(w.Last, 0, WlkMaxCode)
}

// number is by what walkers stand in a map.
func (w WlkWalker) number() int {
	return w.Id
}

// byNumber lets the things of a list stand in a map by their numbers; those of one number stand in their order.
func byNumber[T any](list []T, number func(T) int) map[int][]placed[T] {
	groups := map[int][]placed[T]{}
	for i, thing := range list {
		n := number(thing)
		groups[n] = append(groups[n], placed[T]{thing: thing, place: i})
	}
	return groups
}

// inOrder tells the things that stand in a map as they stood in their list; it sorts, as the map has no order of its own.
func inOrder[T any](groups map[int][]placed[T]) []T {
	var all []placed[T]
	for _, group := range groups {
		all = append(all, group...)
	}
	slices.SortFunc(all, func(a placed[T], b placed[T]) int { return cmp.Compare(a.place, b.place) })
	things := make([]T, 0, len(all))
	for _, p := range all {
		things = append(things, p.thing)
	}
	return things
}
