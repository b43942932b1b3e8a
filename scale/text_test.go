package scale_test

import (
	"math/rand"
	"slices"
	"strings"
	"testing"

	"agraffe/api"
	"agraffe/scale"
)

const exampleText = "fork 440000\nwire steel 24661 180000 97000000\nwire copper 27960 40000 60000000\nunison 0 0 0 1 3 40000 1000 0 steel -\nunison 1 0 0 1 3 20000 1000 0 steel -\n"

func equal(a, b api.Stringing) bool {
	return a.Fork == b.Fork && slices.Equal(a.Wires, b.Wires) && slices.Equal(a.Unisons, b.Unisons)
}

func TestP2_7_Print(t *testing.T) {
	rich := api.Stringing{Fork: 10000000, Wires: []api.Wire{{Name: "A-1", Mass: 200000, Strength: 1000000, Stiff: 100000000}, {Name: "b", Mass: 1, Strength: 100000, Stiff: 0}},
		Unisons: []api.Unison{{Pitch: pitch(-400, 251, 0, 12), Count: 1, Strand: api.Strand{Length: 1000, Core: 100, Over: 10000, Wire: "A-1", Wrap: "b"}},
			{Pitch: pitch(-1, 0, 0, 12), Count: 4, Strand: api.Strand{Length: 300000, Core: 3000, Wire: "b"}}}}
	for _, c := range []struct {
		s    api.Stringing
		want string
	}{
		{two(), exampleText},
		{api.Stringing{Fork: 1000}, "fork 1000\n"},
		{api.Stringing{Fork: 1000, Wires: []api.Wire{steel()}}, "fork 1000\nwire steel 24661 180000 97000000\n"},
		{rich, "fork 10000000\nwire A-1 200000 1000000 100000000\nwire b 1 100000 0\nunison -400 251 0 12 1 1000 100 10000 A-1 b\nunison -1 0 0 12 4 300000 3000 0 b -\n"},
	} {
		if text, e := scale.Print(c.s); text != c.want || e != api.OK {
			t.Errorf("Print(%v) = %q, %v, want %q", c.s, text, e, c.want)
		}
		if s, n, e := scale.Parse(c.want); !equal(s, c.s) || n != 0 || e != api.OK {
			t.Errorf("Parse(%q) = %v, %v, %v", c.want, s, n, e)
		}
	}
	for name, c := range invalidStringings() {
		if text, e := scale.Print(c.s); text != "" || e != c.want {
			t.Errorf("Print, %s: %q, %v, want %v", name, text, e, c.want)
		}
	}
}

func TestP2_7_ParseOfWrongLines(t *testing.T) {
	const steelLine, unisonLine = "wire steel 24661 180000 97000000\n", "unison 0 0 0 1 3 40000 1000 0 steel -\n"
	for _, c := range []struct {
		text string
		line int
	}{
		{"", 1}, {"\n", 1}, {"\nfork 440000\n", 1}, {"fork 440000", 1}, {"fork", 1}, {"fork\n", 1}, {"fork \n", 1}, {" fork 440000\n", 1}, {"fork 440000 \n", 1}, {"fork  440000\n", 1},
		{"Fork 440000\n", 1}, {"fork 440000 1\n", 1}, {"fork 440000\r\n", 1}, {"fork\t440000\n", 1}, {steelLine, 1}, {unisonLine, 1}, {"440000\n", 1},
		{"fork +440000\n", 1}, {"fork 0440000\n", 1}, {"fork 00\n", 1}, {"fork -0\n", 1}, {"fork -\n", 1}, {"fork --1\n", 1}, {"fork -01\n", 1}, {"fork 4e5\n", 1}, {"fork 4_4\n", 1}, {"fork 0x4\n", 1}, {"fork 44.\n", 1}, {"fork x\n", 1}, {"fork ４\n", 1},
		{"fork 1000000000\n", 1}, {"fork -1000000000\n", 1}, {"fork 99999999999999999999\n", 1}, {"fork 0000000001\n", 1},
		{"fork 440000\n\n", 2}, {"fork 440000\nfork 440000\n", 2}, {"fork 440000\n" + steelLine + "fork 440000\n", 3}, {"fork 440000\n ", 2}, {"fork 440000\nx\n", 2},
		{"fork 440000\nwire steel 24661 180000\n", 2}, {"fork 440000\nwire steel 24661 180000 97000000 1\n", 2}, {"fork 440000\nwire steel 24661 180000 97000000 \n", 2}, {"fork 440000\nwires steel 24661 180000 97000000\n", 2},
		{"fork 440000\nwire steel x 180000 97000000\n", 2}, {"fork 440000\nwire steel 24661 018 97000000\n", 2}, {"fork 440000\nwire steel 24661 180000 1000000000\n", 2}, {"fork 440000\nwire steel 24661  97000000\n", 2}, {"fork 440000\nwire\n", 2},
		{"fork 440000\n" + strings.TrimSuffix(steelLine, "\n"), 2}, {"fork 440000\n" + steelLine + strings.TrimSuffix(unisonLine, "\n"), 3},
		{"fork 440000\n" + steelLine + unisonLine + steelLine, 4}, {"fork 440000\n" + unisonLine + steelLine + unisonLine, 3}, {"fork 440000\n" + steelLine + unisonLine + "\n", 4}, {"fork 440000\n" + steelLine + unisonLine + "fork 440000\n", 4},
		{"fork 440000\nunison 0 0 0 1 3 40000 1000 0 steel\n", 2}, {"fork 440000\nunison 0 0 0 1 3 40000 1000 0 steel - -\n", 2}, {"fork 440000\nunison 0 0 0 1 3 40000 1000 0\n", 2}, {"fork 440000\nunison 0 0 0 1 3 40000 1000 - steel -\n", 2},
		{"fork 440000\nUnison 0 0 0 1 3 40000 1000 0 steel -\n", 2}, {"fork 440000\n unison 0 0 0 1 3 40000 1000 0 steel -\n", 2}, {"fork 440000\nunison 0 0 0 1 3 40000 1000 0 steel -", 2},
		// A wrong line comes before what is wrong with the stringing, and the first one before a later one.
		{"fork 1\nwire 1 1 1 1\nunison 0 0 0 1 9 9 9 9 x y\nx\n", 4}, {"fork 440000\nx\ny", 2}, {"fork 440000\nwire - 1 1 1\nx", 3},
	} {
		if s, n, e := scale.Parse(c.text); !isEmpty(s) || n != c.line || e != api.ErrSyntax {
			t.Errorf("Parse(%q) = %v, %v, %v, want line %v", c.text, s, n, e, c.line)
		}
	}
	// Each number of a unison has to be one.
	words := strings.Fields(unisonLine)
	for i := 1; i <= 8; i++ {
		for _, wrong := range []string{"", "x", "+1", "01", "-0", "1.", "1000000000", "-"} {
			changed := slices.Clone(words)
			changed[i] = wrong
			if s, n, e := scale.Parse("fork 440000\n" + steelLine + strings.Join(changed, " ") + "\n"); !isEmpty(s) || n != 3 || e != api.ErrSyntax {
				t.Errorf("Parse of a unison with %q: %v, %v, %v", wrong, s, n, e)
			}
		}
	}
}

func TestP2_7_ParseOfWrongStringings(t *testing.T) {
	const head = "fork 440000\nwire steel 24661 180000 97000000\n"
	for _, c := range []struct {
		text string
		want api.Errno
	}{
		{"fork 999\n", api.ErrRange}, {"fork -440000\n", api.ErrRange}, {"fork 0\n", api.ErrRange}, {"fork 999999999\n", api.ErrRange}, {"fork -999999999\n", api.ErrRange},
		{"fork 440000\nwire  24661 180000 97000000\n", api.ErrName}, {"fork 440000\nwire 7 24661 180000 97000000\n", api.ErrName}, {"fork 440000\nwire - 24661 180000 97000000\n", api.ErrName}, {"fork 440000\nwire st\teel 24661 180000 97000000\n", api.ErrName},
		{"fork 440000\nwire steel -1 180000 97000000\n", api.ErrRange}, {head + "wire steel 24661 180000 97000000\n", api.ErrExists},
		{"fork 440000\n" + strings.Repeat("wire steel 24661 180000 97000000\n", 21), api.ErrLarge},
		{head + strings.Repeat("unison 0 0 0 1 3 40000 1000 0 steel -\n", 91), api.ErrLarge},
		{head + strings.Repeat("unison 0 0 0 1 3 40000 1000 0 steel -\n", 2), api.ErrOrder},
		{head + "unison 0 0 0 0 3 40000 1000 0 steel -\n", api.ErrRange}, {head + "unison 0 0 0 1 -3 40000 1000 0 steel -\n", api.ErrRange}, {head + "unison 400 0 0 1 3 40000 1000 0 steel -\n", api.ErrLarge},
		{head + "unison 0 0 0 1 3 40000 1000 0  -\n", api.ErrMissing}, {head + "unison 0 0 0 1 3 40000 1000 0 - -\n", api.ErrMissing}, {head + "unison 0 0 0 1 3 40000 1000 0 iron -\n", api.ErrMissing}, {"fork 440000\nunison 0 0 0 1 3 40000 1000 0 steel -\n", api.ErrMissing},
		{head + "unison 0 0 0 1 3 40000 1000 0 steel steel\n", api.ErrForm}, {head + "unison 0 0 0 1 3 40000 1000 1100 steel -\n", api.ErrForm}, {head + "unison 0 0 0 1 3 40000 1000 1100 steel \n", api.ErrForm}, {head + "unison 0 0 0 1 3 40000 1000 1100 steel --\n", api.ErrMissing},
	} {
		if s, n, e := scale.Parse(c.text); !isEmpty(s) || n != 0 || e != c.want {
			t.Errorf("Parse(%q) = %v, %v, %v, want %v", c.text, s, n, e, c.want)
		}
	}
	// A last word that is empty is a Wrap that is empty.
	if s, n, e := scale.Parse(head + "unison 0 0 0 1 3 40000 1000 0 steel \n"); e != api.OK || n != 0 || len(s.Unisons) != 1 || s.Unisons[0].Strand != plain(40000, 1000) {
		t.Errorf("Parse of an empty Wrap: %v, %v, %v", s, n, e)
	}
}

func TestP2_7_ParseOfLongTexts(t *testing.T) {
	if s, n, e := scale.Parse(strings.Repeat("x", 60000)); !isEmpty(s) || n != 1 || e != api.ErrSyntax {
		t.Errorf("Parse of 60000 bytes: %v, %v, %v", s, n, e)
	}
	if s, n, e := scale.Parse(strings.Repeat("x", 60001)); !isEmpty(s) || n != 0 || e != api.ErrLarge {
		t.Errorf("Parse of 60001 bytes: %v, %v, %v", s, n, e)
	}
	if _, n, e := scale.Parse(exampleText + strings.Repeat("é\n", 20001)); n != 0 || e != api.ErrLarge {
		t.Errorf("Parse of a long text of two bytes for a letter: %v, %v", n, e)
	}
	// The greatest stringing has a text that is not too long.
	long := api.Stringing{Fork: 1000000}
	for i := range 20 {
		long.Wires = append(long.Wires, api.Wire{Name: "abcdefghijk" + string(rune('a'+i)), Mass: 200000, Strength: 1000000, Stiff: 100000000})
	}
	for i := range 90 {
		name := long.Wires[i%20].Name
		long.Unisons = append(long.Unisons, api.Unison{Pitch: pitch(i-80, 0, 0, 12), Count: 4, Strand: api.Strand{Length: 100000 + i, Core: 1000, Over: 10000, Wire: name, Wrap: name}})
	}
	text, e := scale.Print(long)
	if e != api.OK || strings.Count(text, "\n") != 111 {
		t.Errorf("Print of a great stringing: %v", e)
	}
	if s, n, e := scale.Parse(text); !equal(s, long) || n != 0 || e != api.OK {
		t.Errorf("Parse of a great stringing: %v, %v", n, e)
	}
	// The lines are counted from 1 on, up to the last one.
	if _, n, e := scale.Parse(text + "unison 1\n"); n != 112 || e != api.ErrSyntax {
		t.Errorf("Parse of a great stringing with a wrong line: %v, %v", n, e)
	}
}

func TestP2_9_ParseUndoesPrint(t *testing.T) {
	r := rand.New(rand.NewSource(10))
	for range 300 {
		s := randomStringing(r, among(r, 0, 12))
		text, e := scale.Print(s)
		if e != api.OK {
			t.Fatalf("Print(%v): %v", s, e)
		}
		if again, n, e := scale.Parse(text); !equal(again, s) || n != 0 || e != api.OK {
			t.Errorf("Parse(%q) = %v, %v, %v", text, again, n, e)
		}
		if _, n, e := scale.Parse(strings.TrimSuffix(text, "\n")); e != api.ErrSyntax || n != strings.Count(text, "\n") {
			t.Errorf("Parse(%q) without the last line feed: %v, %v", text, n, e)
		}
	}
}
