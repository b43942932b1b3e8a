package plate

import (
	"slices"
	"strconv"
	"strings"

	"agraffe/api"
)

const (
	forceWord  = "force"
	mostNumber = 9999999999 // the greatest number of ten digits
)

// line returns the line of a force.
func line(f api.Pulled) string {
	text := forceWord
	for _, n := range slices.Concat(f.At[:], f.Force[:]) {
		text += " " + strconv.Itoa(n)
	}
	return text + "\n"
}

// Print returns the text of forces.
func Print(l []api.Pulled) (string, api.Errno) {
	if e := CheckForces(l); e != api.OK {
		return "", e
	}
	var text strings.Builder
	for _, f := range l {
		text.WriteString(line(f))
	}
	return text.String(), api.OK
}

// readNumber reads a number of at most ten digits. One that is written back in another way was not written as a text has to be.
func readNumber(word string) (int, bool) {
	short := within(mostNumber)
	n, err := strconv.Atoi(word)
	return n, err == nil && short(n) && strconv.Itoa(n) == word
}

// readForce reads a line with its line feed.
func readForce(text string) (api.Pulled, bool) {
	text, ended := strings.CutSuffix(text, "\n")
	words := strings.Split(text, " ")
	var numbers [6]int
	if !ended || len(words) != 1+len(numbers) || words[0] != forceWord {
		return api.Pulled{}, false
	}
	for i, word := range words[1:] {
		n, right := readNumber(word)
		if !right {
			return api.Pulled{}, false
		}
		numbers[i] = n
	}
	return api.Pulled{At: [3]int(numbers[:3]), Force: [3]int(numbers[3:])}, true
}

// Parse returns the forces with a text, or ErrSyntax with the number of the first wrong line.
func Parse(t string) ([]api.Pulled, int, api.Errno) {
	if len(t) > api.MaxText {
		return nil, 0, api.ErrLarge
	}
	var l []api.Pulled
	for text := range strings.Lines(t) {
		f, right := readForce(text)
		if !right {
			return nil, len(l) + 1, api.ErrSyntax
		}
		l = append(l, f)
	}
	if e := CheckForces(l); e != api.OK {
		return nil, 0, e
	}
	return l, 0, api.OK
}
