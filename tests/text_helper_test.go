package tests

import (
	"math/rand"
	"strings"
	"testing"
)

// textKind is a kind of text: how the program reads and writes it, and how the document's words read it.
type textKind[T comparable] struct {
	name    string
	read    func(string) (T, bool)
	write   func(T) string
	plainly func(string) (T, bool)
}

// askRead asks what is read from a text, that it is nothing beside a false, and that what is read has that text.
func (k textKind[T]) askRead(t *testing.T, s string) {
	t.Helper()
	got, ok := k.read(s)
	want, wantOk := k.plainly(s)
	if got != want || ok != wantOk {
		t.Fatalf("%s read from %q is %v, %v, not %v, %v", k.name, s, got, ok, want, wantOk)
	}
	if ok && k.write(got) != s {
		t.Fatalf("the text of the %s read from %q is %q", k.name, s, k.write(got))
	}
}

// askWritten asks for the text of a thing, empty if it has none, and that just that thing is read back from it.
func (k textKind[T]) askWritten(t *testing.T, thing T, want string) {
	t.Helper()
	s := k.write(thing)
	if s != want {
		t.Fatalf("the text of the %s %v is %q, not %q", k.name, thing, s, want)
	}
	var nothing T
	got, ok := k.read(s)
	if ok != (want != "") || ok && got != thing || !ok && got != nothing {
		t.Fatalf("%s read from %q is %v, %v", k.name, s, got, ok)
	}
}

// askNone asks that a text is none of this kind.
func (k textKind[T]) askNone(t *testing.T, s string) {
	t.Helper()
	var nothing T
	if got, ok := k.read(s); ok || got != nothing {
		t.Errorf("%s read from %q is %v, %v", k.name, s, got, ok)
	}
}

// askOneByteTurned asks for a text of which each byte is left out, turned into each other one, and has each one put ahead of it; and for all its beginnings and ends.
func (k textKind[T]) askOneByteTurned(t *testing.T, s string) {
	t.Helper()
	k.askRead(t, s)
	for i := 0; i <= len(s); i++ {
		for b := range 256 {
			with := string([]byte{byte(b)})
			k.askRead(t, s[:i]+with+s[i:])
			if i < len(s) {
				k.askRead(t, s[:i]+with+s[i+1:])
			}
		}
		if i < len(s) {
			k.askRead(t, s[:i]+s[i+1:])
		}
		k.askRead(t, s[:i])
		k.askRead(t, s[i:])
	}
}

// askManyBytes asks for a text that has grown at its front, at its end, at its first space and at its first number, up to and past 100 bytes.
func (k textKind[T]) askManyBytes(t *testing.T, s string) {
	t.Helper()
	digit := strings.IndexAny(s, "0123456789")
	for size := len(s) + 1; size < 130; size++ {
		more := size - len(s)
		k.askRead(t, s+strings.Repeat(" ", more))
		k.askRead(t, strings.Repeat(" ", more)+s)
		k.askRead(t, s+strings.Repeat("5", more))
		k.askRead(t, s[:digit]+strings.Repeat("0", more)+s[digit:])
		k.askRead(t, strings.Replace(s, " ", strings.Repeat(" ", more+1), 1))
	}
	for _, size := range []int{1 << 10, 1 << 20} {
		k.askRead(t, strings.Repeat(" ", size))
		k.askRead(t, s+strings.Repeat("\n", size))
		k.askRead(t, s[:digit]+strings.Repeat("1", size))
	}
}

// askAnyBytes asks for texts of any words and of any bytes.
func (k textKind[T]) askAnyBytes(t *testing.T, seed int64, words []string) {
	t.Helper()
	r := rand.New(rand.NewSource(seed))
	words = append([]string{" ", " ", "  ", "0", "1", "9", "-1", "+1", "01", "\xff", "\x00", "é"}, words...)
	for range 20000 {
		var glued, spaced []string
		for range r.Intn(24) {
			glued = append(glued, words[r.Intn(len(words))])
		}
		for range r.Intn(8) {
			spaced = append(spaced, words[r.Intn(len(words))])
		}
		bytes := make([]byte, r.Intn(110))
		r.Read(bytes)
		k.askRead(t, strings.Join(glued, ""))
		k.askRead(t, strings.Join(spaced, " "))
		k.askRead(t, string(bytes))
	}
}
