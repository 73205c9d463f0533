package expand

import (
	"cmp"
	"slices"
	"sort"

	"analemma/api"
	"analemma/yearly"
)

const daySecs = 86400

// leapGap is the greatest distance of two leap years: a day that so many years in a row lack is in none.
const leapGap = 8

// moment is one of a line: its second, and the line's place among the zone's.
type moment struct{ sec, line int }

// compare sets the later line ahead of another one at the same second, which is dropped then.
func (m moment) compare(n moment) int {
	return cmp.Or(cmp.Compare(m.sec, n.sec), cmp.Compare(n.line, m.line))
}

func (m moment) meets(n moment) bool {
	return m.sec == n.sec
}

// momentsWithin are those of the years, rising, of the lines whose events they are.
func momentsWithin(lines []api.Line, from, to int) []moment {
	first, end := firstSecond(from), firstSecond(to+1)
	var all []moment
	for y := from - 1; y <= to+1; y++ { // a moment read as UTC may be in a year beside its own
		for i, l := range lines {
			if sec, ok := yearly.At(l, y); ok && sec >= first && sec < end {
				all = append(all, moment{sec, i})
			}
		}
	}
	slices.SortFunc(all, moment.compare)
	return slices.CompactFunc(all, moment.meets)
}

// has is what the zone has at sec, of seconds out of range too: no event is there.
func has(z api.Source, sec int) api.Triple {
	triple, found := z.Base, api.MinSec
	for _, l := range z.Lines {
		if at, ok := lastMoment(l, sec); ok && at >= found {
			triple, found = l.Triple, at
		}
	}
	return triple
}

// lastMoment goes back from the year behind sec's, whose moment may be ahead of sec, over as many years as may have none.
func lastMoment(l api.Line, sec int) (int, bool) {
	begin, stop := years(l)
	stop = min(stop, yearOf(sec)+1)
	for y := stop; y >= max(begin, stop-leapGap-1); y-- {
		if at, ok := yearly.At(l, y); ok && at <= sec {
			return at, true
		}
	}
	return 0, false
}

// years are the first and the last one of which the line may have a moment.
func years(l api.Line) (int, int) {
	if l.Kind == api.LineAt {
		y := yearOf(l.Sec)
		return y, y
	}
	return l.From, min(l.To, api.MaxYear+1)
}

// yearOf is MinYear - 1 ahead of all that is in range.
func yearOf(sec int) int {
	later := func(i int) bool { return firstSecond(api.MinYear+i) > sec }
	return api.MinYear + sort.Search(api.MaxYear-api.MinYear+1, later) - 1
}

func firstSecond(y int) int {
	day, _ := yearly.Day(api.Day{Kind: api.DayDate, N: 1}, y, 1)
	return day * daySecs
}
