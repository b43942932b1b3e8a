package regulation

import (
	"strconv"
	"strings"

	"agraffe/api"
)

const (
	mostNumber = 9999999 // the greatest number of seven digits

	measureWord = "measure"
	adjustWord  = "adjust"
	onWord      = "on"
	afterWord   = "after"
)

// FormatStep returns the text of a step.
func FormatStep(s api.Step) string {
	return strconv.Itoa(s.Adjustment) + " " + strconv.Itoa(s.Steps)
}

// ParseStep returns the step with a text.
func ParseStep(s string) (api.Step, api.Errno) {
	numbers, right := readNumbers(strings.Split(s, " "))
	if !right || len(numbers) != 2 {
		return api.Step{}, api.ErrSyntax
	}
	return api.Step{Adjustment: numbers[0], Steps: numbers[1]}, api.OK
}

// wordsOf returns the words of a line that begins with a word and a name, and goes on with numbers.
func wordsOf(first, name string, numbers ...int) []string {
	words := []string{first, name}
	for _, n := range numbers {
		words = append(words, strconv.Itoa(n))
	}
	return words
}

func wordsOfAdjustment(a api.Adjustment) []string {
	words := wordsOf(adjustWord, a.Name, a.Least, a.Most, a.Pass)
	for _, effect := range a.Effects {
		words = append(words, wordsOf(onWord, effect.Measure, effect.By)...)
	}
	for _, name := range a.After {
		words = append(words, wordsOf(afterWord, name)...)
	}
	return words
}

// Print returns the text of a bench.
func Print(b api.Bench) (string, api.Errno) {
	if e := CheckBench(b); e != api.OK {
		return "", e
	}
	var text strings.Builder
	write := func(words []string) { text.WriteString(strings.Join(words, " ") + "\n") }
	for _, m := range b.Measures {
		write(wordsOf(measureWord, m.Name, m.Value, m.Low, m.High))
	}
	for _, a := range b.Adjustments {
		write(wordsOfAdjustment(a))
	}
	return text.String(), api.OK
}

// readNumber reads a number of at most seven digits. One that is written back in another way was not written as a text has to be.
func readNumber(word string) (int, bool) {
	n, err := strconv.Atoi(word)
	right := within(-mostNumber, mostNumber)
	return n, err == nil && right(n) && strconv.Itoa(n) == word
}

// readNumbers reads words that are numbers.
func readNumbers(words []string) ([]int, bool) {
	var numbers []int
	for _, word := range words {
		n, right := readNumber(word)
		if !right {
			return nil, false
		}
		numbers = append(numbers, n)
	}
	return numbers, true
}

// readMeasure reads the words of a measure, from its name on.
func readMeasure(words []string) (api.Measure, bool) {
	if len(words) != 4 {
		return api.Measure{}, false
	}
	numbers, right := readNumbers(words[1:])
	if !right {
		return api.Measure{}, false
	}
	return api.Measure{Name: words[0], Value: numbers[0], Low: numbers[1], High: numbers[2]}, true
}

// readAdjustment reads the words of an adjustment, from its name on.
func readAdjustment(words []string) (api.Adjustment, bool) {
	if len(words) < 4 {
		return api.Adjustment{}, false
	}
	numbers, right := readNumbers(words[1:4])
	if !right {
		return api.Adjustment{}, false
	}
	a := api.Adjustment{Name: words[0], Least: numbers[0], Most: numbers[1], Pass: numbers[2]}
	for words = words[4:]; len(words) >= 3 && words[0] == onWord; words = words[3:] {
		by, right := readNumber(words[2])
		if !right {
			return api.Adjustment{}, false
		}
		a.Effects = append(a.Effects, api.Effect{Measure: words[1], By: by})
	}
	for ; len(words) >= 2 && words[0] == afterWord; words = words[2:] {
		a.After = append(a.After, words[1])
	}
	return a, len(words) == 0
}

// addLine adds what a line with its line feed says to a bench, if it may stand behind what was read.
func addLine(b *api.Bench, line string) bool {
	line, ended := strings.CutSuffix(line, "\n")
	words := strings.Split(line, " ")
	switch {
	case ended && words[0] == measureWord && len(b.Adjustments) == 0:
		m, right := readMeasure(words[1:])
		b.Measures = append(b.Measures, m)
		return right
	case ended && words[0] == adjustWord:
		a, right := readAdjustment(words[1:])
		b.Adjustments = append(b.Adjustments, a)
		return right
	}
	return false
}

// readBench returns the bench with a text, or the number of the first wrong line.
func readBench(s string) (api.Bench, int) {
	var b api.Bench
	read := 0
	for line := range strings.Lines(s) {
		read++
		if !addLine(&b, line) {
			return api.Bench{}, read
		}
	}
	return b, 0
}

// Parse returns the bench with a text, or ErrSyntax with the number of the first wrong line.
func Parse(s string) (api.Bench, int, api.Errno) {
	if len(s) > api.MaxText {
		return api.Bench{}, 0, api.ErrLarge
	}
	b, wrong := readBench(s)
	if wrong > 0 {
		return api.Bench{}, wrong, api.ErrSyntax
	}
	if e := CheckBench(b); e != api.OK {
		return api.Bench{}, 0, e
	}
	return b, 0, api.OK
}
