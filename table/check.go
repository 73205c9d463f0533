package table

import (
	"slices"

	"analemma/api"
	"analemma/crowd"
	"analemma/rules"
)

// Check asks for the errors by their numbers, but for ErrCrowded: that is told where nothing else is wrong.
func Check(t api.Table) api.Errno {
	if tooLong(t) {
		return api.ErrTooBig
	}
	e := checkLines(t)
	if e != api.ErrSyntax && !mayStand(t) {
		return api.ErrBadArg
	}
	if e == api.OK && crowded(t) {
		return api.ErrCrowded
	}
	return e
}

func tooLong(t api.Table) bool {
	return len(t.Changes) > api.MaxChange || len(t.Tail) > api.MaxChange
}

// checkLines asks chapter 15, in which a change is a line of one second, of as many at once as a zone may have lines.
func checkLines(t api.Table) api.Errno {
	z := api.Source{Name: t.Name, Base: t.Base}
	e := rules.Check(z)
	for _, l := range [2][]api.Change{t.Changes, t.Tail} {
		for some := range slices.Chunk(l, api.MaxLines) {
			z.Lines = z.Lines[:0]
			for _, c := range some {
				z.Lines = append(z.Lines, api.Line{Kind: api.LineAt, Sec: c.Sec, Triple: c.Triple})
			}
			e = lesser(e, rules.Check(z))
		}
	}
	return e
}

// lesser is the one of two that counts: OK just beside OK.
func lesser(e, f api.Errno) api.Errno {
	if e == api.OK || f != api.OK && f < e {
		return f
	}
	return e
}

// mayStand asks for Last first: without it there is no place for anything else.
func mayStand(t api.Table) bool {
	if !within(t.Last, api.MinYear, api.MaxYear) || !turns(t.Changes, t.Base) || !turns(t.Tail, atEnd(t)) {
		return false
	}
	start := firstBehind(t.Last)
	if n := len(t.Changes); n > 0 && t.Changes[n-1].Sec >= start {
		return false
	}
	return mayRepeat(t, start)
}

// turns tells whether changes rise, and each has another Triple than what was had ahead of it.
func turns(l []api.Change, had api.Triple) bool {
	for i, c := range l {
		if c.Triple == had || i > 0 && c.Sec <= l[i-1].Sec {
			return false
		}
		had = c.Triple
	}
	return true
}

// mayRepeat asks where Tail and First lie. Behind MaxYear no second is left for a tail.
func mayRepeat(t api.Table, start int) bool {
	if len(t.Tail) == 0 {
		return t.First == 0
	}
	first, last := t.Tail[0], t.Tail[len(t.Tail)-1]
	if first.Sec < start || last.Sec > min(start+api.Cycle-1, api.MaxSec) {
		return false
	}
	return t.First == first.Sec || within(t.First, start, first.Sec) && last.Triple != atEnd(t)
}

// crowded takes tables in which nothing else is wrong: the changes of others are not those that seconds tells.
func crowded(t api.Table) bool {
	all := seconds(t)
	inRange := reached(len(all), func(i int) int { return all[i] }, api.MaxSec)
	return crowd.Most(all[:inRange], 2*api.MaxOffset) >= api.MaxFold
}

func within(n, low, high int) bool {
	return n >= low && n <= high
}
