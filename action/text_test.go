package action_test

import (
	"math/rand"
	"strings"
	"testing"

	"agraffe/action"
	"agraffe/api"
)

const uprightText = "action 1000\npart wippen - 100 20 0 0 1000 500\npart hammer wippen 30 10 0 0 450 4500 500 4300\nevent lift wippen rise 1\nevent let-off hammer rise 4500\nevent drop hammer rise 4600\n"

func TestP4_9_PrintAndParse(t *testing.T) {
	all := upright()
	all.Events = append(all.Events, api.ActionEvent{Name: "rest", Part: "wippen", Level: -10000, Falling: true})
	all.Leads = []api.Lead{{Weight: 5000, Place: -1000}, {Weight: 1, Place: 0}}
	for text, a := range map[string]api.Action{
		uprightText: upright(),
		uprightText + "event rest wippen fall -10000\nlead 5000 -1000\nlead 1 0\n": all,
		"action 1\n":              {Dip: 1},
		"action 2000\nlead 3 4\n": {Dip: 2000, Leads: []api.Lead{{Weight: 3, Place: 4}}},
		"action 8\npart part - 0 0 -10000 10000\npart action part 100000 10000 -1 -2 0 0 3 4\nevent lead part fall 0\n": {
			Dip:    8,
			Parts:  []api.ActionPart{{Name: "part", Curve: curve(-10000, 10000)}, {Name: "action", Driver: "part", Curve: curve(-1, -2, 0, 0, 3, 4), Weight: 100000, Friction: 10000}},
			Events: []api.ActionEvent{{Name: "lead", Part: "part", Falling: true}},
		},
	} {
		got, e := action.Print(a)
		wanted(t, "Print", got, e, text, api.OK)
		again, n, e := action.Parse(text)
		if !sameAction(again, a) || n != 0 || e != api.OK {
			t.Errorf("Parse(%q) = %v, %v, %v", text, again, n, e)
		}
	}
}

// notParsed checks that a text is refused.
func notParsed(t *testing.T, text string, line int, want api.Errno) {
	t.Helper()
	if a, n, e := action.Parse(text); !isZero(a) || n != line || e != want {
		t.Errorf("Parse(%.80q) = %v, %v, %v, want %v, %v", text, a, n, e, line, want)
	}
}

// wrongLines have none of the forms.
var wrongLines = []string{"", " ", "\t", "x", "action", "action ", "action x", "action 5 5", "action 5 ", " action 5", "action  5", "Action 5", "actions 5", "action\t5", "action 5\r", "action 1/2", "5", "action-5",
	"part", "part ", "part a", "part a ", "part a -", "part a - ", "part a - 0", "part a - 0 ", "part a - 0 0 ", "part a - 0 0 0", "part a - 0 0 0 0 0", "part a - 0 0 0 0 ", "part a  0 0 0 0", "part   0 0 0 0", "part a b - 0 0 0 0", "part a - 0 0 0 x", "part a - x 0 0 0", "part a - 0  0 0 0", "part a - 0 0 0/1 0", " part a - 0 0 0 0", "Part a - 0 0 0 0", "parts a - 0 0 0 0", "part a - 0 0 0 0\r", "part\ta - 0 0 0 0",
	"event", "event ", "event a", "event a b", "event a b rise", "event a b rise ", "event a b rise 5 ", "event a b rise 5 5", "event a b 5", "event a b rose 5", "event a b Rise 5", "event a b rise  5", "event a b  5", "event a b rise x", "event a b fall", "event a b falls 5", "event a b - 5", "event a b true 5", "event a rise 5", "event a  b rise 5", "events a b rise 5", " event a b rise 5", "event a b rise 5\r",
	"lead", "lead ", "lead 1", "lead 1 ", "lead 1 1 ", "lead 1 1 1", "lead  1 1", "lead 1  1", "lead x 1", "lead 1 x", "leads 1 1", "Lead 1 1", " lead 1 1", "lead a 1 1", "lead 1 1\r", "lead 1\t1", "\xff", "lead \xff 1"}

func TestP4_9_ParseOfWrongLines(t *testing.T) {
	for _, line := range wrongLines {
		notParsed(t, line+"\n", 1, api.ErrSyntax)
		notParsed(t, line+"\naction 5\n", 1, api.ErrSyntax)
		notParsed(t, "action 5\n"+line+"\n", 2, api.ErrSyntax)
		notParsed(t, uprightText+line+"\n", 7, api.ErrSyntax)
		notParsed(t, uprightText+"lead 1 1\n"+line+"\nlead 1 1\n", 8, api.ErrSyntax)
		notParsed(t, "action 5\n"+line+"\n"+line+"\n", 2, api.ErrSyntax)
	}
	notParsed(t, "", 1, api.ErrSyntax)
	// A last line without a line feed.
	for _, line := range []string{"action 5", "part b - 0 0 0 0", "event a wippen rise 5", "lead 1 1", "lead"} {
		notParsed(t, line, 1, api.ErrSyntax)
		notParsed(t, "action 5\n"+line, 2, api.ErrSyntax)
	}
	notParsed(t, strings.TrimSuffix(uprightText, "\n"), 6, api.ErrSyntax)
}

func TestP4_9_OrderOfLines(t *testing.T) {
	lines := map[string]string{"a": "action 5\n", "p": "part p - 0 0 0 0\n", "e": "event e p rise 0\n", "l": "lead 1 1\n"}
	for order, wrong := range map[string]int{
		"a": 0, "ap": 0, "ape": 0, "apel": 0, "apl": 0, "al": 0, "all": 0, "apell": 0,
		"p": 1, "e": 1, "l": 1, "pa": 1, "la": 1, "ea": 1, "aa": 2, "apa": 3, "apea": 4, "apela": 5, "ala": 3, "alla": 4,
		"alp": 3, "ale": 3, "apelp": 5, "apele": 5, "apep": 4, "aep": 3, "aple": 4, "aplp": 4, "apllp": 5, "apaa": 3, "aax": 2,
	} {
		text := ""
		for _, c := range order {
			text += lines[string(c)]
		}
		if wrong > 0 {
			notParsed(t, text, wrong, api.ErrSyntax)
			continue
		}
		if a, n, e := action.Parse(text); a.Dip != 5 || n != 0 || e != api.OK {
			t.Errorf("Parse(%q) = %v, %v, %v", text, a, n, e)
		}
	}
}

// TestP4_9_Numbers puts right and wrong numbers at each place of a number.
func TestP4_9_Numbers(t *testing.T) {
	rows := []string{"action #\n", "action 5\npart a - # 0 0 0\n", "action 5\npart a - 0 # 0 0\n", "action 5\npart a - 0 0 # 0\n", "action 5\npart a - 0 0 0 #\n", "action 5\npart a - 0 0 0 0 # 0\n", "action 5\npart a - 0 0 0 0 9 #\n", "action 5\npart a - 0 0 0 0\nevent e a rise #\n", "action 5\npart a - 0 0 0 0\nevent e a fall #\n", "action 5\nlead # 1\n", "action 5\nlead 1 #\n"}
	for _, row := range rows {
		for _, wrong := range []string{"", "x", "-", "--1", "+1", "01", "00", "-0", "-01", "1.", "1e3", "0x1", "1_0", "1-", "１", "10000000", "-10000000", "00000001", "9223372036854775807", "-9223372036854775808", "9223372036854775808", "18446744073709551617", "99999999999999999999", "1/1", "\x001"} {
			notParsed(t, strings.ReplaceAll(row, "#", wrong), strings.Count(row, "\n"), api.ErrSyntax)
		}
		// Seven digits are a number, but none that may stand there.
		for _, far := range []string{"9999999", "-9999999", "100001", "-100001"} {
			notParsed(t, strings.ReplaceAll(row, "#", far), 0, api.ErrRange)
		}
	}
}

func TestP4_9_Names(t *testing.T) {
	// Names may be any words: the action is wrong, not the line.
	for _, name := range []string{"", "1", "é", "a.b", "\t", "\xff", "-", strings.Repeat("n", 13), "a\rb"} {
		notParsed(t, "action 5\npart "+name+" - 0 0 0 0\n", 0, api.ErrName)
		notParsed(t, "action 5\npart a - 0 0 0 0\nevent "+name+" a rise 0\n", 0, api.ErrName)
		notParsed(t, "action 5\npart a - 0 0 0 0\nevent e "+name+" rise 0\n", 0, api.ErrMissing)
		switch name {
		case "":
			notParsed(t, "action 5\npart a  0 0 0 0\n", 2, api.ErrSyntax)
		case "-":
		default:
			notParsed(t, "action 5\npart a "+name+" 0 0 0 0\n", 0, api.ErrMissing)
		}
	}
	// A driver of a part that is named like it.
	notParsed(t, "action 5\npart a a 0 0 0 0\n", 0, api.ErrMissing)
	notParsed(t, "action 5\npart a -- 0 0 0 0\n", 0, api.ErrMissing)
	notParsed(t, "action 5\npart a part 0 0 0 0\n", 0, api.ErrMissing)
}

func TestP4_9_ParseOfWrongActions(t *testing.T) {
	part := "part a - 0 0 0 0\n"
	for text, want := range map[string]api.Errno{
		"action 0\n": api.ErrRange, "action 2001\n": api.ErrRange, "action -1\n": api.ErrRange,
		"action 5\npart a - 0 0\n": api.ErrShape, "action 5\npart a - 0 0" + strings.Repeat(" 0 0", 13) + "\n": api.ErrShape, "action 5\npart a - 0 0 0 0 0 0\n": api.ErrOrder, "action 5\n" + part + part: api.ErrExists,
		"action 5\npart a b 0 0 0 0\npart b - 0 0 0 0\n": api.ErrMissing, "action 5\n" + part + "event e b rise 0\n": api.ErrMissing, "action 5\n" + part + "event e a rise 0\nevent e a rise 1\n": api.ErrExists,
		"action 5\n" + strings.Repeat("lead 1 1\n", 9): api.ErrLarge, "action 5\nlead 0 0\n": api.ErrRange, "action 5\n" + strings.Repeat(part, 13): api.ErrLarge, "action 5\n" + part + strings.Repeat("event e a rise 0\n", 21): api.ErrLarge,
		"action 0\npart a - 0 0\n": api.ErrRange,
	} {
		notParsed(t, text, 0, want)
		// A wrong line comes before an action that is wrong.
		notParsed(t, text+"x\n", strings.Count(text, "\n")+1, api.ErrSyntax)
	}
}

func TestP4_9_LongTexts(t *testing.T) {
	notParsed(t, strings.Repeat("x", 60000), 1, api.ErrSyntax)
	notParsed(t, strings.Repeat("x", 60001), 0, api.ErrLarge)
	notParsed(t, strings.Repeat("\n", 60001), 0, api.ErrLarge)
	notParsed(t, strings.Repeat("é", 30001), 0, api.ErrLarge)
	// 9 bytes, 6665 lines of 9 bytes, and 6 bytes more.
	text := "action 5\n" + strings.Repeat("lead 1 1\n", 6665)
	notParsed(t, text, 0, api.ErrLarge)
	notParsed(t, text+"leads\n", 6667, api.ErrSyntax)
	notParsed(t, text+"lead 1\n", 0, api.ErrLarge)
	notParsed(t, "action 5\npart a - 0 0"+strings.Repeat(" 0 0", 14994)+"\n", 0, api.ErrShape)
	// The longest text of an action is no longer.
	long, e := action.Print(full())
	if a, n, f := action.Parse(long); e != api.OK || !sameAction(a, full()) || n != 0 || f != api.OK {
		t.Errorf("Parse(%q): %v, %v, %v, %v", long, e, a, n, f)
	}
}

func TestP4_9_ParseUndoesPrint(t *testing.T) {
	r := rand.New(rand.NewSource(49))
	for range 500 {
		a := randomAction(r)
		text, e := action.Print(a)
		if e != api.OK {
			t.Fatalf("Print(%v): %v", a, e)
		}
		if again, n, e := action.Parse(text); !sameAction(again, a) || n != 0 || e != api.OK {
			t.Errorf("Parse(%q) = %v, %v, %v", text, again, n, e)
		}
	}
}
