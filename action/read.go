package action

import (
	"strconv"
	"strings"

	"agraffe/api"
)

// reader is the part of an action that is read, and the first word of the last line.
type reader struct {
	action api.Action
	last   string
}

// readNumber reads a number of at most seven digits. One that is written back in another way was not written as a text has to be.
func readNumber(word string) (int, bool) {
	n, err := strconv.Atoi(word)
	return n, err == nil && within(n, -mostNumber, mostNumber) && strconv.Itoa(n) == word
}

// readLine reads a line with its line feed.
func readLine(text string) (line, bool) {
	text, ended := strings.CutSuffix(text, "\n")
	if !ended {
		return line{}, false
	}
	var l line
	for word := range strings.SplitSeq(text, " ") {
		if len(l.words) == 0 || len(l.words) < wordsOf(l.words[0]) {
			l.words = append(l.words, word)
			continue
		}
		n, right := readNumber(word)
		if !right {
			return line{}, false
		}
		l.numbers = append(l.numbers, n)
	}
	return l, len(l.words) == wordsOf(l.words[0])
}

// comesBehind says whether a line that begins with a word may stand behind the last one.
func (r *reader) comesBehind(first string) bool {
	switch first {
	case actionWord:
		return r.last == ""
	case partWord:
		return r.last == actionWord || r.last == partWord
	case eventWord:
		return r.last != "" && r.last != leadWord
	}
	return r.last != ""
}

// take adds what a line says, if it may stand behind the last one.
func (r *reader) take(l line) bool {
	first, numbers := l.words[0], l.numbers
	if !r.comesBehind(first) {
		return false
	}
	r.last = first
	switch first {
	case actionWord:
		return r.takeDip(numbers)
	case partWord:
		return r.takePart(l.words[1], l.words[2], numbers)
	case eventWord:
		return r.takeEvent(l.words[1], l.words[2], l.words[3], numbers)
	case leadWord:
		return r.takeLead(numbers)
	}
	return false
}

func (r *reader) takeDip(numbers []int) bool {
	if len(numbers) != 1 {
		return false
	}
	r.action.Dip = numbers[0]
	return true
}

func (r *reader) takePart(name, driver string, numbers []int) bool {
	if driver == "" || len(numbers) < 2 || len(numbers)%2 != 0 {
		return false
	}
	if driver == noDriver {
		driver = ""
	}
	p := api.ActionPart{Name: name, Driver: driver, Weight: numbers[0], Friction: numbers[1]}
	for i := 2; i < len(numbers); i += 2 {
		p.Curve.Corners = append(p.Curve.Corners, api.Knee{X: whole(numbers[i]), Y: whole(numbers[i+1])})
	}
	r.action.Parts = append(r.action.Parts, p)
	return true
}

func (r *reader) takeEvent(name, part, direction string, numbers []int) bool {
	if direction != riseWord && direction != fallWord || len(numbers) != 1 {
		return false
	}
	v := api.ActionEvent{Name: name, Part: part, Level: numbers[0], Falling: direction == fallWord}
	r.action.Events = append(r.action.Events, v)
	return true
}

func (r *reader) takeLead(numbers []int) bool {
	if len(numbers) != 2 {
		return false
	}
	r.action.Leads = append(r.action.Leads, api.Lead{Weight: numbers[0], Place: numbers[1]})
	return true
}

// readAction returns the action with a text, or the number of the first wrong line.
func readAction(s string) (api.Action, int) {
	var r reader
	read := 0
	for text := range strings.Lines(s) {
		read++
		if l, right := readLine(text); !right || !r.take(l) {
			return api.Action{}, read
		}
	}
	if read == 0 {
		return api.Action{}, 1
	}
	return r.action, 0
}

// Parse returns the action with a text, or ErrSyntax with the number of the first wrong line.
func Parse(s string) (api.Action, int, api.Errno) {
	if len(s) > api.MaxText {
		return api.Action{}, 0, api.ErrLarge
	}
	a, wrong := readAction(s)
	if wrong > 0 {
		return api.Action{}, wrong, api.ErrSyntax
	}
	if e := CheckAction(a); e != api.OK {
		return api.Action{}, 0, e
	}
	return a, 0, api.OK
}
