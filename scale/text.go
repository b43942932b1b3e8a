package scale

import (
	"strconv"
	"strings"

	"agraffe/api"
)

const (
	mostNumber = 999999999 // the greatest number of nine digits
	noWrap     = "-"       // stands for an empty Wrap
)

// line returns words and numbers with single blanks between, ended by a line feed.
func line(parts ...any) string {
	words := make([]string, len(parts))
	for i, part := range parts {
		switch p := part.(type) {
		case string:
			words[i] = p
		case int:
			words[i] = strconv.Itoa(p)
		}
	}
	return strings.Join(words, " ") + "\n"
}

// Print returns the text of a stringing.
func Print(s api.Stringing) (string, api.Errno) {
	if _, e := CheckStringing(s); e != api.OK {
		return "", e
	}
	var text strings.Builder
	text.WriteString(line("fork", s.Fork))
	for _, w := range s.Wires {
		text.WriteString(line("wire", w.Name, w.Mass, w.Strength, w.Stiff))
	}
	for _, u := range s.Unisons {
		wrap := u.Strand.Wrap
		if wrap == "" {
			wrap = noWrap
		}
		text.WriteString(line("unison", u.Pitch.Two, u.Pitch.Three, u.Pitch.Five, u.Pitch.Den, u.Count,
			u.Strand.Length, u.Strand.Core, u.Strand.Over, u.Strand.Wire, wrap))
	}
	return text.String(), api.OK
}

// parseNumber reads a number of at most nine digits. One that is written back in another way was not written as a text has to be.
func parseNumber(s string) (int, bool) {
	n, err := strconv.Atoi(s)
	return n, err == nil && within(n, -mostNumber, mostNumber) && strconv.Itoa(n) == s
}

// readLine reads the words of a line into its parts: a text is a word that has to stand there, others are where a word or a number goes to.
func readLine(words string, parts ...any) bool {
	l := strings.Split(words, " ")
	if len(l) != len(parts) {
		return false
	}
	for i, part := range parts {
		right := true
		switch p := part.(type) {
		case string:
			right = l[i] == p
		case *string:
			*p = l[i]
		case *int:
			*p, right = parseNumber(l[i])
		}
		if !right {
			return false
		}
	}
	return true
}

func readWire(words string) (api.Wire, bool) {
	var w api.Wire
	right := readLine(words, "wire", &w.Name, &w.Mass, &w.Strength, &w.Stiff)
	return w, right
}

func readUnison(words string) (api.Unison, bool) {
	var u api.Unison
	p, s := &u.Pitch, &u.Strand
	right := readLine(words, "unison", &p.Two, &p.Three, &p.Five, &p.Den, &u.Count, &s.Length, &s.Core, &s.Over, &s.Wire, &s.Wrap)
	if s.Wrap == noWrap {
		s.Wrap = ""
	}
	return u, right
}

// addLine adds what a line behind the first one says, if it may stand behind what is there.
func addLine(s *api.Stringing, words string) bool {
	if w, right := readWire(words); right && len(s.Unisons) == 0 {
		s.Wires = append(s.Wires, w)
		return true
	}
	u, right := readUnison(words)
	if right {
		s.Unisons = append(s.Unisons, u)
	}
	return right
}

// readText returns what the lines of a text say, or the number of the first wrong one.
func readText(t string) (api.Stringing, int) {
	var s api.Stringing
	read := 0
	for text := range strings.Lines(t) {
		words, right := strings.CutSuffix(text, "\n")
		if read == 0 {
			right = right && readLine(words, "fork", &s.Fork)
		} else {
			right = right && addLine(&s, words)
		}
		read++
		if !right {
			return api.Stringing{}, read
		}
	}
	if read == 0 {
		return api.Stringing{}, 1
	}
	return s, 0
}

// Parse returns the stringing with a text, or ErrSyntax with the number of the first wrong line.
func Parse(t string) (api.Stringing, int, api.Errno) {
	if len(t) > api.MaxText {
		return api.Stringing{}, 0, api.ErrLarge
	}
	s, wrong := readText(t)
	if wrong > 0 {
		return api.Stringing{}, wrong, api.ErrSyntax
	}
	if _, e := CheckStringing(s); e != api.OK {
		return api.Stringing{}, 0, e
	}
	return s, 0, api.OK
}
