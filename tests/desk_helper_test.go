package tests

import (
	"fmt"
	"slices"
	"strings"
	"testing"

	"loop.example/landmarch/impl"
)

// sides is how sides are written.
var sides = []string{"left", "right"}

// orderWords is how an order is written behind its Seq; empty, if it has no text.
func orderWords(o impl.OrdOrder) string {
	o.Seq = 1
	if !orderOkPlainly(o) {
		return ""
	}
	switch o.Kind {
	case 1:
		return "step " + sides[o.To]
	case 2:
		return fmt.Sprintf("give %d %d", o.To, o.N)
	case 3:
		return fmt.Sprintf("drop %d", o.N)
	case 4:
		return fmt.Sprintf("pick %d", o.N)
	case 5:
		return fmt.Sprintf("throw %s %d", sides[o.To], o.N)
	}
	return "rest"
}

// eventLine is how a thing that happens is written; empty, if no line is that.
func eventLine(e impl.WldEvent) string {
	if e.At < 0 || e.At > 99999 {
		return ""
	}
	for word, kind := range kindsOfLines {
		switch {
		case kind != e.Kind:
		case kind == 2:
			what := orderWords(impl.OrdOrder{Who: e.At, Kind: e.What, To: e.To, N: e.N})
			if what == "" {
				return ""
			}
			return fmt.Sprintf("ask %d %s", e.At, what)
		case e.What != 0 || e.N != 0:
			return ""
		case kind == 1 || kind == 7:
			if e.To < 0 || e.To > 99999 {
				return ""
			}
			return fmt.Sprintf("%s %d %d", word, e.At, e.To)
		case e.To == 0:
			return fmt.Sprintf("%s %d", word, e.At)
		}
	}
	return ""
}

// eventLines is how things that happen are written, those left out that no line is.
func eventLines(events []impl.WldEvent) []string {
	var lines []string
	for _, e := range events {
		if line := eventLine(e); line != "" {
			lines = append(lines, line)
		}
	}
	return lines
}

// linesOf is the lines of a text, one behind the other.
func linesOf(text string) []string {
	return strings.Split(strings.TrimSpace(text), "\n")
}

// headOf is how the head of a world is written.
func headOf(m impl.PlcMap, servers int, list []impl.WlkWalker) []string {
	head := []string{fmt.Sprintf("map %d %d", m.Cells, m.Width), fmt.Sprintf("servers %d", servers)}
	for _, w := range list {
		head = append(head, fmt.Sprintf("walker %d at %d coins %d order %d code %d", w.Id, w.At, w.Coins, w.Seq, w.Last))
	}
	return head
}

// headOfWorld is the head of a world that is at its beginning.
func headOfWorld(first impl.WldWorld) []string {
	var list []impl.WlkWalker
	for _, one := range oneOfPlainly(first).Walkers {
		list = append(list, one.Walker)
	}
	return headOf(first.Map, len(first.Servers), list)
}

// askHead asks what is read from a head, by the words, and for P63.
func askHead(t *testing.T, lines []string) int {
	t.Helper()
	m, servers, list, wrong := impl.DskHead(lines)
	wantMap, wantServers, wantList, wantWrong := headPlainly(lines)
	if m != wantMap || servers != wantServers || !slices.Equal(list, wantList) || wrong != wantWrong {
		t.Fatalf("DskHead(%q) is %v, %d, %v, %d, not %v, %d, %v, %d", lines, m, servers, list, wrong, wantMap, wantServers, wantList, wantWrong)
	}
	if wrong == 0 && !impl.WldOk(impl.WldNew(m, list, servers)) {
		t.Fatalf("DskHead(%q) reads what has no world: %v, %d, %v", lines, m, servers, list)
	}
	return wrong
}

// askWrongHead asks that of a head nothing is read, and which line is wrong.
func askWrongHead(t *testing.T, lines []string, want int) {
	t.Helper()
	if got := askHead(t, lines); got != want {
		t.Errorf("of %q the line %d is wrong, not %d", lines, got, want)
	}
	if m, servers, list, _ := impl.DskHead(lines); m != (impl.PlcMap{}) || servers != 0 || len(list) != 0 {
		t.Errorf("beside the line %d of %q there is %v, %d, %v", want, lines, m, servers, list)
	}
}

// askBoard asks for the board of a world that is ok, by the words, and for P64.
func askBoard(t *testing.T, w impl.WldWorld) []string {
	t.Helper()
	got, want := impl.DskBoard(w), boardPlainly(w)
	if !slices.Equal(got, want) {
		t.Fatalf("DskBoard(%+v) is\n%q, not\n%q", w, got, want)
	}
	if len(got) != len(impl.OneOf(w).Walkers)+w.Map.Cells+len(w.Notes) {
		t.Fatalf("DskBoard(%+v) has %d lines", w, len(got))
	}
	return got
}

// askDesk asks for what is told of a run, by the words: the world behind it.
func askDesk(t *testing.T, d deskReader, head, lines []string) impl.WldWorld {
	t.Helper()
	got := impl.DskRun(head, lines)
	want, w := d.run(head, lines)
	if !slices.Equal(got, want) {
		t.Fatalf("DskRun(%q, %q) is\n%q, not\n%q", head, lines, got, want)
	}
	return w
}

// askTold asks for what is told of a run, line by line.
func askTold(t *testing.T, head, lines []string, want ...string) {
	t.Helper()
	if got := impl.DskRun(head, lines); !slices.Equal(got, want) {
		t.Errorf("DskRun(%q, %q) is\n%q, not\n%q", head, lines, got, want)
	}
}
