package regulation_test

import (
	"math"
	"math/rand"
	"strings"
	"testing"

	"agraffe/api"
	"agraffe/regulation"
)

const grandText = "measure let-off 30 10 20\nmeasure drop 5 0 8\nmeasure catch 0 -5 5\nadjust button -10 10 2 on let-off -4 on drop 1\nadjust screw -3 3 1 on drop -2 after button\nadjust check 0 4 4 on catch 5\n"

// wrongNumbers are words that are no numbers.
var wrongNumbers = []string{"", "x", "-", "--1", "+1", "01", "00", "-0", "-01", "1.", "1e3", "0x1", "1_0", "1-", "１", "10000000", "-10000000", "00000001", "9223372036854775807", "-9223372036854775808", "9223372036854775808", "-9223372036854775809", "18446744073709551617", "99999999999999999999", "1/1", "\x001", "1\r", "1\t", "\t1"}

func TestP5_10_FormatStep(t *testing.T) {
	for want, s := range map[string]api.Step{
		"3 -2": step(3, -2), "0 0": step(0, 0), "-1 1000": step(-1, 1000), "11 -1000": step(11, -1000), "9999999 -9999999": step(9999999, -9999999), "10000000 -10000000": step(10000000, -10000000),
		"-9223372036854775808 9223372036854775807": step(math.MinInt, math.MaxInt),
	} {
		if got := regulation.FormatStep(s); got != want {
			t.Errorf("FormatStep(%v) = %q, want %q", s, got, want)
		}
	}
}

func TestP5_10_ParseStep(t *testing.T) {
	for _, s := range []api.Step{step(3, -2), step(0, 0), step(-1, 5), step(9999999, -9999999), step(-9999999, 9999999), step(1000000, 10), step(-12, -34)} {
		got, e := regulation.ParseStep(regulation.FormatStep(s))
		wanted(t, "ParseStep", got, e, s, api.OK)
	}
	wrong := []string{"", " ", "3", "3 ", " 3", "3  2", " 3 2", "3 2 ", "3 2 1", "3\t2", "3 2\n", "3,2", "3-2", "\n", strings.Repeat("1 ", 30000), strings.Repeat("1", 60000)}
	for _, word := range wrongNumbers {
		wrong = append(wrong, word+" 1", "1 "+word, word+" "+word)
	}
	for _, s := range wrong {
		got, e := regulation.ParseStep(s)
		wanted(t, "ParseStep of a wrong text", got, e, api.Step{}, api.ErrSyntax)
	}
}

func TestP5_10_PrintAndParse(t *testing.T) {
	for text, b := range map[string]api.Bench{
		"":                           {},
		grandText:                    grand(),
		"measure a -100000 0 9\n":    {Measures: measures(measure("a", -100000, 0, 9))},
		"adjust a -1000 1000 1000\n": {Adjustments: adjustments(adjust("a", -1000, 1000, 1000))},
		"adjust a 0 0 1 after b after c\nadjust b 0 0 1\nadjust c 0 0 1\n":                                                      {Adjustments: adjustments(behind(adjust("a", 0, 0, 1), "b", "c"), adjust("b", 0, 0, 1), adjust("c", 0, 0, 1))},
		"measure on 1 2 3\nmeasure after 4 5 6\nadjust on -1 0 1 on after -7 on on 8 after after\nadjust after 0 1 1\n":         {Measures: measures(measure("on", 1, 2, 3), measure("after", 4, 5, 6)), Adjustments: adjustments(behind(adjust("on", -1, 0, 1, on("after", -7), on("on", 8)), "after"), adjust("after", 0, 1, 1))},
		"measure measure 0 0 0\nmeasure adjust 0 0 0\nadjust measure 0 0 1 on adjust 1\nadjust adjust 0 0 1 on measure -1000\n": {Measures: measures(measure("measure", 0, 0, 0), measure("adjust", 0, 0, 0)), Adjustments: adjustments(adjust("measure", 0, 0, 1, on("adjust", 1)), adjust("adjust", 0, 0, 1, on("measure", -1000)))},
	} {
		got, e := regulation.Print(b)
		wanted(t, "Print", got, e, text, api.OK)
		again, n, e := regulation.Parse(text)
		wanted(t, "Parse", again, e, b, api.OK)
		wanted(t, "the line", n, e, 0, api.OK)
	}
}

// notParsed checks that a text is refused.
func notParsed(t *testing.T, s string, line int, want api.Errno) {
	t.Helper()
	if b, n, e := regulation.Parse(s); text(b) != text(api.Bench{}) || n != line || e != want {
		t.Errorf("Parse(%.80q) = %v, %v, %v, want %v, %v", s, b, n, e, line, want)
	}
}

// wrongLines have none of the forms.
var wrongLines = []string{"", " ", "\t", "x", "5", "measures", "step a 1 2 3", "\xff",
	"measure", "measure ", "measure a", "measure a ", "measure a 1", "measure a 1 2", "measure a 1 2 ", "measure a 1 2 3 ", "measure a 1 2 3 4", "measure 1 2 3", "measure a b 1 2 3", "measure a  1 2 3", "measure a 1  2 3", "measure a x 2 3", "measure a 1 x 3", "measure a 1 2 x", " measure a 1 2 3", "Measure a 1 2 3", "measures a 1 2 3", "measure\ta 1 2 3", "measure a 1 2 3\r", "measure  a 1 2 3", "measure a 1 2 3 on a 1", "measure a 1 2 3 after x",
	"adjust", "adjust ", "adjust a", "adjust a ", "adjust a 0", "adjust a 0 1", "adjust a 0 1 ", "adjust a 0 1 1 ", "adjust a 0 1 1 1", "adjust 0 1 1", "adjust a b 0 1 1", "adjust a  0 1 1", "adjust a x 1 1", "adjust a 0 x 1", "adjust a 0 1 x", " adjust a 0 1 1", "Adjust a 0 1 1", "adjusts a 0 1 1", "adjust\ta 0 1 1", "adjust a 0 1 1\r", "adjust  a 0 1 1",
	"adjust a 0 1 1 on", "adjust a 0 1 1 on ", "adjust a 0 1 1 on m", "adjust a 0 1 1 on m ", "adjust a 0 1 1 on m x", "adjust a 0 1 1 on m 1 ", "adjust a 0 1 1 on m 1 2", "adjust a 0 1 1 on m 1 m 2", "adjust a 0 1 1 on 1 m", "adjust a 0 1 1 On m 1", "adjust a 0 1 1 ons m 1", "adjust a 0 1 1  on m 1", "adjust a 0 1 1 on m n 1", "adjust a 0 1 1 on m 1 on", "adjust a 0 1 1 on m 1 on n", "adjust a 0 1 1 m 1", "adjust a on m 1 0 1 1", "adjust a 0 1 1 on m 1\r",
	"adjust a 0 1 1 after", "adjust a 0 1 1 after b c", "adjust a 0 1 1 after b ", "adjust a 0 1 1 after b after", "adjust a 0 1 1 After b", "adjust a 0 1 1 afters b", "adjust a 0 1 1  after b", "adjust a 0 1 1 after b on m 1", "adjust a 0 1 1 on m 1 after b on m 2", "adjust a 0 1 1 on after b", "adjust a 0 1 1 on m after b", "adjust a 0 1 1 after after after", "adjust a 0 1 1 b", "adjust a after b 0 1 1"}

func TestP5_10_ParseOfWrongLines(t *testing.T) {
	for _, line := range wrongLines {
		notParsed(t, line+"\n", 1, api.ErrSyntax)
		notParsed(t, line+"\nmeasure m 1 2 3\n", 1, api.ErrSyntax)
		notParsed(t, "measure m 1 2 3\n"+line+"\n", 2, api.ErrSyntax)
		notParsed(t, "measure m 1 2 3\n"+line+"\n"+line+"\n", 2, api.ErrSyntax)
		notParsed(t, grandText+line+"\n", 7, api.ErrSyntax)
		notParsed(t, grandText+line+"\nadjust a 0 1 1\n", 7, api.ErrSyntax)
	}
	// A last line without a line feed.
	for _, line := range []string{"measure a 1 2 3", "adjust a 0 1 1", "adjust a 0 1 1 on m 1", "adjust a 0 1 1 after b", "x", " "} {
		notParsed(t, line, 1, api.ErrSyntax)
		notParsed(t, "measure m 1 2 3\n"+line, 2, api.ErrSyntax)
	}
	notParsed(t, strings.TrimSuffix(grandText, "\n"), 6, api.ErrSyntax)
	notParsed(t, grandText+"\n", 7, api.ErrSyntax)
}

func TestP5_10_OrderOfLines(t *testing.T) {
	notParsed(t, "adjust a 0 1 1\nmeasure m 1 2 3\n", 2, api.ErrSyntax)
	notParsed(t, grandText+"measure m 1 2 3\n", 7, api.ErrSyntax)
	notParsed(t, "measure m 1 2 3\nadjust a 0 1 1\nadjust b 0 1 1\nmeasure n 1 2 3\nmeasure x\n", 4, api.ErrSyntax)
	// A measure behind an adjustment that is wrong itself.
	notParsed(t, "adjust a 0 1 1\nmeasure m\n", 2, api.ErrSyntax)
	notParsed(t, "adjust 1 0 1 1\nmeasure m 1 2 3\n", 2, api.ErrSyntax)
}

// TestP5_10_Numbers puts right and wrong numbers at each place of a number.
func TestP5_10_Numbers(t *testing.T) {
	rows := []string{"measure a # 1 2\n", "measure a 1 # 2\n", "measure a 1 2 #\n", "measure m 0 0 0\nadjust a # 1 1\n", "measure m 0 0 0\nadjust a 0 # 1\n", "measure m 0 0 0\nadjust a 0 1 #\n", "measure m 0 0 0\nadjust a 0 1 1 on m #\n", "measure n 0 0 0\nmeasure m 0 0 0\nadjust a 0 1 1 on n 1 on m #\n", "measure m 0 0 0\nadjust a 0 1 1 on m # after b\nadjust b 0 1 1\n"}
	for _, row := range rows {
		line := 1 + strings.Count(row[:strings.Index(row, "#")], "\n")
		for _, wrong := range wrongNumbers {
			notParsed(t, strings.ReplaceAll(row, "#", wrong), line, api.ErrSyntax)
		}
		// Seven digits are a number, but none that may stand there.
		for _, far := range []string{"9999999", "-9999999", "100001", "-100001"} {
			notParsed(t, strings.ReplaceAll(row, "#", far), 0, api.ErrRange)
		}
	}
}

func TestP5_10_Names(t *testing.T) {
	// Names may be any words: the bench is wrong, not the line.
	for _, name := range []string{"", "1", "-5", "é", "a.b", "\t", "\xff", "-", strings.Repeat("n", 13), "a\rb"} {
		notParsed(t, "measure "+name+" 1 2 3\n", 0, api.ErrName)
		notParsed(t, "adjust "+name+" 0 1 1\n", 0, api.ErrName)
		notParsed(t, "adjust a 0 1 1 on "+name+" 1\n", 0, api.ErrMissing)
		notParsed(t, "adjust a 0 1 1 after "+name+"\n", 0, api.ErrMissing)
		notParsed(t, "measure m 1 2 3\nadjust a 0 1 1 on m 1 on "+name+" 1 after a after "+name+"\n", 0, api.ErrMissing)
	}
}

func TestP5_10_ParseOfWrongBenches(t *testing.T) {
	m, a := "measure m 1 2 3\n", "adjust a 0 1 1\n"
	for text, want := range map[string]api.Errno{
		m + m: api.ErrExists, "measure m 1 3 2\n": api.ErrOrder, "measure m 100001 2 3\n": api.ErrRange, strings.Repeat(m, 13): api.ErrLarge,
		a + a: api.ErrExists, strings.Repeat(a, 13): api.ErrLarge, "adjust a 1 1 1\n": api.ErrRange, "adjust a 0 -1 1\n": api.ErrRange, "adjust a 0 1 0\n": api.ErrRange, "adjust a 0 1 1001\n": api.ErrRange,
		m + "adjust a 0 1 1 on m 0\n": api.ErrZero, m + "adjust a 0 1 1 on m 1001\n": api.ErrRange, m + "adjust a 0 1 1 on m 1 on m 1\n": api.ErrExists, m + "adjust a 0 1 1" + strings.Repeat(" on m 1", 13) + "\n": api.ErrLarge,
		"adjust a 0 1 1 after a\n": api.ErrCycle, "adjust a 0 1 1 after b\nadjust b 0 1 1 after a\n": api.ErrCycle, a + "adjust b 0 1 1 after a after a\n": api.ErrExists, a + "adjust b 0 1 1" + strings.Repeat(" after a", 13) + "\n": api.ErrLarge,
	} {
		notParsed(t, text, 0, want)
		// A wrong line comes before a bench that is wrong.
		notParsed(t, text+"x\n", strings.Count(text, "\n")+1, api.ErrSyntax)
	}
}

func TestP5_10_LongTexts(t *testing.T) {
	notParsed(t, strings.Repeat("x", 60000), 1, api.ErrSyntax)
	notParsed(t, strings.Repeat("x", 60001), 0, api.ErrLarge)
	notParsed(t, strings.Repeat("\n", 60001), 0, api.ErrLarge)
	notParsed(t, strings.Repeat("é", 30001), 0, api.ErrLarge)
	// 3750 lines of 16 bytes.
	long := strings.Repeat("measure m 1 2 3\n", 3750)
	notParsed(t, long, 0, api.ErrLarge)
	notParsed(t, long[:60000-16]+"measure m 1 2 x\n", 3750, api.ErrSyntax)
	notParsed(t, "x"+long, 0, api.ErrLarge)
	// The longest text of a bench is no longer, and read again.
	s, e := regulation.Print(full())
	b, n, f := regulation.Parse(s)
	if text(b) != text(full()) || n != 0 || e != api.OK || f != api.OK {
		t.Errorf("Parse(%q) = %v, %v, %v", s, b, n, f)
	}
}

func TestP5_10_ParseUndoesPrint(t *testing.T) {
	r := rand.New(rand.NewSource(510))
	for range 500 {
		b := randomBench(r)
		s, e := regulation.Print(b)
		if e != api.OK {
			t.Fatalf("Print(%v): %v", b, e)
		}
		again, n, e := regulation.Parse(s)
		wanted(t, "Parse of Print", again, e, b, api.OK)
		wanted(t, "the line", n, e, 0, api.OK)
	}
}
