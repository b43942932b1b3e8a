package action

import (
	"strconv"
	"strings"

	"agraffe/api"
)

const (
	mostNumber = 9999999 // the greatest number of seven digits
	noDriver   = "-"     // stands for an empty Driver

	actionWord = "action"
	partWord   = "part"
	eventWord  = "event"
	leadWord   = "lead"
	riseWord   = "rise"
	fallWord   = "fall"
)

// line is a line of a text: words, and behind them numbers.
type line struct {
	words   []string
	numbers []int
}

// wordsOf returns how many words come before the numbers in a line that begins with a word.
func wordsOf(first string) int {
	switch first {
	case partWord:
		return 3
	case eventWord:
		return 4
	}
	return 1
}

// text returns a line with its line feed.
func (l line) text() string {
	text := strings.Join(l.words, " ")
	for _, n := range l.numbers {
		text += " " + strconv.Itoa(n)
	}
	return text + "\n"
}

func lineOfPart(p api.ActionPart) line {
	driver := p.Driver
	if driver == "" {
		driver = noDriver
	}
	numbers := []int{p.Weight, p.Friction}
	for _, knee := range p.Curve.Corners {
		numbers = append(numbers, knee.X.Num, knee.Y.Num)
	}
	return line{words: []string{partWord, p.Name, driver}, numbers: numbers}
}

func lineOfEvent(v api.ActionEvent) line {
	direction := riseWord
	if v.Falling {
		direction = fallWord
	}
	return line{words: []string{eventWord, v.Name, v.Part, direction}, numbers: []int{v.Level}}
}

// Print returns the text of an action.
func Print(a api.Action) (string, api.Errno) {
	if e := CheckAction(a); e != api.OK {
		return "", e
	}
	lines := []line{{words: []string{actionWord}, numbers: []int{a.Dip}}}
	for _, p := range a.Parts {
		lines = append(lines, lineOfPart(p))
	}
	for _, v := range a.Events {
		lines = append(lines, lineOfEvent(v))
	}
	for _, lead := range a.Leads {
		lines = append(lines, line{words: []string{leadWord}, numbers: []int{lead.Weight, lead.Place}})
	}
	var text strings.Builder
	for _, l := range lines {
		text.WriteString(l.text())
	}
	return text.String(), api.OK
}
