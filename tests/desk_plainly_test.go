package tests

import (
	"fmt"
	"regexp"
	"strconv"

	"loop.example/landmarch/impl"
)

// Chapter 16 in the document's words, with its numbers written out: what the program is held against.

// lineNumber is a number of a line: decimals without needless noughts, five at most.
const lineNumber = `(0|[1-9][0-9]{0,4})`

// How lines are written. A line that is asked has a walker, and behind it what stands behind Seq.
var (
	twoNumbersForm = regexp.MustCompile(`\A(grant|tick) ` + lineNumber + ` ` + lineNumber + `\z`)
	oneNumberForm  = regexp.MustCompile(`\A(say|bring|lose|twice|fall|rise) ` + lineNumber + `\z`)
	askForm        = regexp.MustCompile(`(?s)\Aask ([1-9]) (.*)\z`)
	mapForm        = regexp.MustCompile(`\Amap ` + lineNumber + ` ` + lineNumber + `\z`)
	serversForm    = regexp.MustCompile(`\Aservers ` + lineNumber + `\z`)
)

// kindsOfLines is the Kind of each word.
var kindsOfLines = map[string]int{"grant": 1, "ask": 2, "say": 3, "bring": 4, "lose": 5, "twice": 6, "tick": 7, "fall": 8, "rise": 9}

// deskReader reads lines by their forms; it has the orders by their texts, as it takes long to write these out.
type deskReader struct {
	orders map[int]map[string]impl.OrdOrder
}

func newDeskReader() deskReader {
	return deskReader{orders: ordersByText()}
}

// event is of any line.
func (d deskReader) event(line string) (impl.WldEvent, bool) {
	if len(line) > 100 {
		return impl.WldEvent{}, false
	}
	if found := twoNumbersForm.FindStringSubmatch(line); found != nil {
		return impl.WldEvent{Kind: kindsOfLines[found[1]], At: decimals(found[2]), To: decimals(found[3])}, true
	}
	if found := oneNumberForm.FindStringSubmatch(line); found != nil {
		return impl.WldEvent{Kind: kindsOfLines[found[1]], At: decimals(found[2])}, true
	}
	if found := askForm.FindStringSubmatch(line); found != nil {
		if o, ok := d.orders[decimals(found[1])][found[2]]; ok {
			return impl.WldEvent{Kind: 2, At: o.Who, What: o.Kind, To: o.To, N: o.N}, true
		}
	}
	return impl.WldEvent{}, false
}

// decimals is the number of a text that has the form of one.
func decimals(s string) int {
	n, _ := strconv.Atoi(s)
	return n
}

// headPlainly is of any lines.
func headPlainly(lines []string) (impl.PlcMap, int, []impl.WlkWalker, int) {
	var m impl.PlcMap
	var servers int
	var list []impl.WlkWalker
	for i, line := range lines[:min(len(lines), 400)] {
		right := false
		switch {
		case len(line) > 100:
		case i == 0:
			if found := mapForm.FindStringSubmatch(line); found != nil {
				m = impl.PlcMap{Cells: decimals(found[1]), Width: decimals(found[2])}
				right = m.Cells >= 2 && m.Cells <= 4 && m.Width >= 2 && m.Width <= 8
			}
		case i == 1:
			if found := serversForm.FindStringSubmatch(line); found != nil {
				servers = decimals(found[1])
				right = servers >= 1 && servers <= 3
			}
		default:
			w, ok := readPlainly(line)
			right = ok && w.At < m.Cells*m.Width && (i == 2 || list[i-3].Id < w.Id)
			list = append(list, w)
		}
		if !right {
			return impl.PlcMap{}, 0, nil, i + 1
		}
	}
	if len(lines) < 2 {
		return impl.PlcMap{}, 0, nil, len(lines) + 1
	}
	return m, servers, list, 0
}

// boardPlainly is of a world that is ok.
func boardPlainly(w impl.WldWorld) []string {
	var board []string
	o := oneOfPlainly(w)
	for _, one := range o.Walkers {
		x := one.Walker
		line := fmt.Sprintf("walker %d at %d coins %d order %d code %d", x.Id, x.At, x.Coins, x.Seq, x.Last)
		if !one.Here {
			line += " coming"
		}
		board = append(board, line)
	}
	for cell := range w.Map.Cells {
		board = append(board, fmt.Sprintf("cell %d ground %d air %d %d", cell, o.Ground[cell], o.Air[cell][0], o.Air[cell][1]))
	}
	for _, n := range w.Notes {
		board = append(board, fmt.Sprintf("done %d %d code %d", n.Who, n.Seq, n.Code))
	}
	return board
}

// run is of any lines; besides what is told it is the world behind them, if they begin one.
func (d deskReader) run(head, lines []string) ([]string, impl.WldWorld) {
	m, servers, list, wrong := headPlainly(head)
	if wrong > 0 {
		return []string{fmt.Sprintf("head %d", wrong)}, impl.WldWorld{}
	}
	if len(lines) > 400 {
		return []string{"long"}, impl.WldWorld{}
	}
	var told []string
	w := newWorldPlainly(m, list, servers)
	for i, line := range lines {
		if e, ok := d.event(line); ok {
			w = stepPlainly(w, e)
		} else {
			told = append(told, fmt.Sprintf("line %d", i+1))
		}
	}
	return append(told, boardPlainly(w)...), w
}
