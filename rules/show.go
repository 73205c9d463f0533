package rules

import (
	"sort"
	"strconv"
	"strings"

	"analemma/api"
	"analemma/lex"
	"analemma/words"
)

// dayNames are in the order of api.Day's W, from 1 on.
var dayNames = [7]string{"mon", "tue", "wed", "thu", "fri", "sat", "sun"}

// Show leaves blanks and lines' ends to chapter 13.
func Show(z api.Source) (string, api.Errno) {
	if e := Check(z); e != api.OK {
		return "", e
	}
	var text []api.Token
	text = with(text, zoneWord, z.Name)
	text = with(text, baseWord, offsetWord(z.Base.Offset), z.Base.Abbr)
	for _, l := range z.Lines {
		text = with(text, lineWords(l)...)
	}
	return lex.Show(text), api.OK
}

// with lays a line behind a text. No number of a line is needed: lex.Show does not ask for it.
func with(text []api.Token, line ...string) []api.Token {
	for _, word := range line {
		text = append(text, api.Token{Text: word})
	}
	return append(text, api.Token{Text: lineEnd})
}

// lineWords, and all that it goes by, is asked of lines alone that may be.
func lineWords(l api.Line) []string {
	mark := stdWord
	if l.Triple.Dst {
		mark = dstWord
	}
	last := []string{offsetWord(l.Triple.Offset), mark, l.Triple.Abbr}
	if l.Kind == api.LineAt {
		return append([]string{atWord, momentWord(l.Sec)}, last...)
	}
	return append([]string{
		ruleWord, strconv.Itoa(l.From), endWord(l), monthNames[l.Month-1], dayWord(l.Day), timeWord(l.Time), offsetWord(l.Read),
	}, last...)
}

func endWord(l api.Line) string {
	switch l.To {
	case l.From:
		return onlyWord
	case api.Forever:
		return onWord
	}
	return strconv.Itoa(l.To)
}

// dayWord is asked of any day: of one that may not be, it is a word that chapter 14 does not read as that day.
func dayWord(d api.Day) string {
	name := ""
	if within(d.W, 1, len(dayNames)) {
		name = dayNames[d.W-1]
	}
	switch d.Kind {
	case api.DayDate:
		return strconv.Itoa(d.N)
	case api.DayLast:
		return lastWord + name
	case api.DayFrom:
		return name + fromWord + strconv.Itoa(d.N)
	case api.DayBefore:
		return name + beforeWord + strconv.Itoa(d.N)
	}
	return ""
}

// timeWord leaves out seconds that are 0, which a Moment's word has.
func timeWord(n int) string {
	return strings.TrimSuffix(clockWord(n), ":00")
}

func clockWord(n int) string {
	return pair(n/3600) + ":" + pair(n/60%60) + ":" + pair(n%60)
}

func offsetWord(n int) string {
	word, _ := words.ShowOffset(n)
	return word
}

// momentWord searches for the month whose begin, as chapter 14 reads it, is the last one at or ahead of sec: no layer
// that this one stands on takes a second apart.
func momentWord(sec int) string {
	y := api.MinYear + sort.Search(api.MaxYear-api.MinYear, func(i int) bool { return begin(api.MinYear+i+1, 1) > sec })
	m := 1 + sort.Search(len(monthNames)-1, func(i int) bool { return begin(y, i+2) > sec })
	rest := sec - begin(y, m)
	return dateWord(y, m, 1+rest/daySecs) + "T" + clockWord(rest%daySecs)
}

// begin is a month's first second.
func begin(y, m int) int {
	sec, _ := words.Moment(dateWord(y, m, 1) + "T" + clockWord(0))
	return sec
}

func dateWord(y, m, d int) string {
	sign := ""
	if y < 0 {
		sign, y = "-", -y
	}
	return sign + pair(y/100) + pair(y%100) + "-" + pair(m) + "-" + pair(d)
}

// pair is asked of 0 to 99.
func pair(n int) string {
	return strconv.Itoa(100 + n)[1:]
}
