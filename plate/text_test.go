package plate_test

import (
	"math/rand"
	"slices"
	"strings"
	"testing"

	"agraffe/api"
	"agraffe/plate"
)

func TestP3_7_PrintAndParse(t *testing.T) {
	for _, c := range []struct {
		l    []api.Pulled
		want string
	}{
		{nil, ""}, {[]api.Pulled{}, ""},
		{turning(), "force 100 0 0 0 0 -10\nforce 0 0 0 0 0 10\n"},
		{[]api.Pulled{force(1, 2, 3, 4, 5, 6)}, "force 1 2 3 4 5 6\n"},
		{[]api.Pulled{force(-1000000, 1000000, -1, -1000000000, 1000000000, 0)}, "force -1000000 1000000 -1 -1000000000 1000000000 0\n"},
		{repeated(300, force(-1000000, -1000000, -1000000, -1000000000, -1000000000, -1000000000)), strings.Repeat("force -1000000 -1000000 -1000000 -1000000000 -1000000000 -1000000000\n", 300)},
	} {
		if text, e := plate.Print(c.l); text != c.want || e != api.OK {
			t.Errorf("Print(%v) = %q, %v, want %q", c.l, text, e, c.want)
		}
		if l, n, e := plate.Parse(c.want); !slices.Equal(l, c.l) || n != 0 || e != api.OK {
			t.Errorf("Parse(%q) = %v, %v, %v", c.want, l, n, e)
		}
	}
	for name, c := range wrongForces() {
		if text, e := plate.Print(c.l); text != "" || e != c.want {
			t.Errorf("Print, %s: %q, %v, want %v", name, text, e, c.want)
		}
	}
}

// notParsed checks that a text is refused.
func notParsed(t *testing.T, text string, line int, want api.Errno) {
	t.Helper()
	if l, n, e := plate.Parse(text); len(l) != 0 || n != line || e != want {
		t.Errorf("Parse(%.80q) = %v, %v, %v, want %v, %v", text, l, n, e, line, want)
	}
}

func TestP3_7_ParseOfWrongLines(t *testing.T) {
	const right = "force 1 2 3 4 5 6\n"
	for _, line := range []string{"\n", " \n", "x\n", "force\n", "force 1 2 3 4 5\n", "force 1 2 3 4 5 6 7\n", "force 1 2 3 4 5 \n", "force 1 2 3 4 5 6 \n", " force 1 2 3 4 5 6\n", "force  1 2 3 4 5 6\n", "force 1 2 3  4 5 6\n", "force 1 2 3 4 5  6\n",
		"Force 1 2 3 4 5 6\n", "forces 1 2 3 4 5 6\n", "forc 1 2 3 4 5 6\n", "1 2 3 4 5 6\n", "1 2 3 4 5 6 7\n", "force 1 2 3 4 5 6\r\n", "force\t1 2 3 4 5 6\n", "force 1\t2 3 4 5 6 7\n", "force 1 2 3 4 5 6", "force 1 2 3 4 5 6\x00\n", " 1 2 3 4 5 6\n", "force,1,2,3,4,5,6\n", "force 1 2 3 4 5 6\v\n", "\rforce 1 2 3 4 5 6\n"} {
		notParsed(t, line, 1, api.ErrSyntax)
		notParsed(t, right+line, 2, api.ErrSyntax)
		notParsed(t, strings.Repeat(right, 9)+line, 10, api.ErrSyntax)
		if strings.HasSuffix(line, "\n") {
			notParsed(t, line+right, 1, api.ErrSyntax)
			notParsed(t, right+line+line, 2, api.ErrSyntax)
		}
	}
	// Each of the numbers has to be one.
	for i := 1; i <= 6; i++ {
		for _, wrong := range []string{"", "x", "-", "--1", "+1", "01", "00", "-0", "-01", "1.", "1e3", "0x1", "1_0", "1-", "１", "10000000000", "-10000000000", "0000000001", "9223372036854775807", "-9223372036854775808", "-9223372036854775807", "9223372036854775808", "18446744073709551617", "99999999999999999999", "1/1"} {
			words := strings.Fields(right)
			words[i] = wrong
			notParsed(t, strings.Join(words, " ")+"\n", 1, api.ErrSyntax)
			notParsed(t, right+strings.Join(words, " ")+"\n"+right, 2, api.ErrSyntax)
		}
	}
	// A wrong line comes before forces that are wrong, wherever it stands.
	notParsed(t, "force 1000001 0 0 0 0 0\nx\n", 2, api.ErrSyntax)
	notParsed(t, strings.Repeat(right, 301)+"x\n", 302, api.ErrSyntax)
	notParsed(t, strings.Repeat(right, 302)+"force", 303, api.ErrSyntax)
}

func TestP3_7_ParseOfWrongForces(t *testing.T) {
	// Numbers of ten digits are numbers, but too great in size.
	for i := 1; i <= 6; i++ {
		most := []string{"1000000", "1000000000"}[(i-1)/3]
		over := []string{"1000001", "1000000001"}[(i-1)/3]
		words := strings.Fields("force 1 2 3 4 5 6")
		for _, sign := range []string{"", "-"} {
			words[i] = sign + most
			if l, n, e := plate.Parse(strings.Join(words, " ") + "\n"); len(l) != 1 || n != 0 || e != api.OK {
				t.Errorf("Parse(%q) = %v, %v, %v", words, l, n, e)
			}
			for _, wrong := range []string{over, "9999999999"} {
				words[i] = sign + wrong
				notParsed(t, strings.Join(words, " ")+"\n", 0, api.ErrRange)
			}
		}
	}
	notParsed(t, strings.Repeat("force 0 0 0 0 0 0\n", 301), 0, api.ErrLarge)
	notParsed(t, strings.Repeat("force 1000001 0 0 0 0 0\n", 301), 0, api.ErrLarge)
}

func TestP3_7_ParseOfLongTexts(t *testing.T) {
	notParsed(t, strings.Repeat("x", 60000), 1, api.ErrSyntax)
	notParsed(t, strings.Repeat("x", 60001), 0, api.ErrLarge)
	notParsed(t, strings.Repeat("\n", 60001), 0, api.ErrLarge)
	notParsed(t, strings.Repeat("é", 30001), 0, api.ErrLarge)
	// 3333 lines of 18 bytes, and 6 bytes more.
	full := strings.Repeat("force 0 0 0 0 0 0\n", 3333)
	notParsed(t, full, 0, api.ErrLarge)
	notParsed(t, full+"force\n", 3334, api.ErrSyntax)
	notParsed(t, full+"forces\n", 0, api.ErrLarge)
}

func TestP3_7_ParseUndoesPrint(t *testing.T) {
	r := rand.New(rand.NewSource(9))
	for range 300 {
		l := randomForces(r, 20)
		text, e := plate.Print(l)
		if e != api.OK {
			t.Fatalf("Print(%v): %v", l, e)
		}
		if again, n, e := plate.Parse(text); !slices.Equal(again, l) || n != 0 || e != api.OK {
			t.Errorf("Parse(%q) = %v, %v, %v", text, again, n, e)
		}
		if len(l) > 0 {
			notParsed(t, strings.TrimSuffix(text, "\n"), len(l), api.ErrSyntax)
		}
	}
}
