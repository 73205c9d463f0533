package rules

import (
	"slices"

	"analemma/api"
	"analemma/words"
)

const daySecs = 86400

// Check asks for the errors by their numbers, so that the first one found is the least.
func Check(z api.Source) api.Errno {
	switch {
	case len(z.Lines) > api.MaxLines || tails(z.Lines) > api.MaxTails:
		return api.ErrTooBig
	case words.Name(z.Name) != api.OK || misspelt(z.Base) || slices.ContainsFunc(z.Lines, misspeltLine):
		return api.ErrSyntax
	case z.Base.Dst || slices.ContainsFunc(z.Lines, mayNot):
		return api.ErrBadArg
	case far(z.Base) || slices.ContainsFunc(z.Lines, farLine):
		return api.ErrRange
	}
	return api.OK
}

func misspelt(t api.Triple) bool {
	return words.Abbr(t.Abbr) != api.OK
}

func misspeltLine(l api.Line) bool {
	return misspelt(l.Triple)
}

// mayNot asks neither for letters nor for what ErrRange is told of.
func mayNot(l api.Line) bool {
	switch l.Kind {
	case api.LineAt:
		return l != api.Line{Kind: l.Kind, Sec: l.Sec, Triple: l.Triple}
	case api.LineRule:
		return l.Sec != 0 || !years(l.From, l.To) || !within(l.Month, 1, len(monthNames)) || !told(l.Day) ||
			!within(l.Time, 0, daySecs) || !isOffset(l.Read)
	}
	return true
}

func years(from, to int) bool {
	return isYear(from) && (to == api.Forever || isYear(to) && from <= to)
}

// told asks chapter 14 itself: a day that it can tell is the one that it reads in the day's word.
func told(d api.Day) bool {
	read, e := words.Day(dayWord(d))
	return e == api.OK && read == d
}

func far(t api.Triple) bool {
	return !isOffset(t.Offset)
}

// farLine takes no Sec but a LineAt's: that of any other line is 0 or ErrBadArg.
func farLine(l api.Line) bool {
	return far(l.Triple) || !within(l.Sec, api.MinSec, api.MaxSec)
}

func isYear(n int) bool {
	return within(n, api.MinYear, api.MaxYear)
}

func isOffset(n int) bool {
	return within(n, -api.MaxOffset, api.MaxOffset)
}

func within(n, low, high int) bool {
	return n >= low && n <= high
}
