package table

import "analemma/api"

const (
	daySecs  = 86400
	yearDays = 365
	leapYear = yearDays + 1
	// Years are counted from the leap year ahead of MinYear on, at which a cycle begins.
	cycleFirst = -10000
)

// has takes tables that may be, and seconds in range.
func has(t api.Table, sec int) api.Triple {
	if sec < firstBehind(t.Last) {
		return lastOf(t.Changes, sec, t.Base)
	}
	x, k := atEnd(t), cycles(t, sec)
	sec -= k * api.Cycle
	if len(t.Tail) > 0 && k > 0 && sec < t.First {
		x = t.Tail[len(t.Tail)-1].Triple
	}
	return lastOf(t.Tail, sec, x)
}

// atEnd is what the table has at the end of year Last: no change is behind that.
func atEnd(t api.Table) api.Triple {
	if len(t.Changes) == 0 {
		return t.Base
	}
	return t.Changes[len(t.Changes)-1].Triple
}

// lastOf is what the last change at or ahead of sec has, and what was had ahead of them all without one.
func lastOf(l []api.Change, sec int, ahead api.Triple) api.Triple {
	i := reached(len(l), func(i int) int { return l[i].Sec }, sec)
	if i == 0 {
		return ahead
	}
	return l[i-1].Triple
}

// reached is how many of n rising seconds lie at or ahead of sec. One that is sec itself ends the search at once.
func reached(n int, second func(i int) int, sec int) int {
	low, high := 0, n
	for low < high {
		middle := low + (high-low)/2
		switch at := second(middle); {
		case at == sec:
			low = middle + 1
			goto found
		case at < sec:
			low = middle + 1
		default:
			high = middle
		}
	}
found:
	return low
}

// cycles are the whole ones from the first second behind Last to sec: none up to the end of Last.
func cycles(t api.Table, sec int) int {
	return max(0, sec-firstBehind(t.Last)) / api.Cycle
}

// seconds are those of all changes up to the end of the third cycle: what a cycle and the one behind it have together
// is there for the first one, which begins in its own way, and for all others.
func seconds(t api.Table) []int {
	all := make([]int, 0, len(t.Changes)+3*len(t.Tail)+2)
	all = appendSeconds(all, t.Changes, 0)
	all = appendSeconds(all, t.Tail, 0)
	all = appendAgain(all, t, api.Cycle)
	return appendAgain(all, t, 2*api.Cycle)
}

// appendAgain is for the cycles behind the first one: ahead of each the table has what the last of Tail has.
func appendAgain(all []int, t api.Table, later int) []int {
	if len(t.Tail) == 0 {
		return all
	}
	first, last := t.Tail[0], t.Tail[len(t.Tail)-1]
	switch {
	case t.First < first.Sec:
		return appendSeconds(append(all, t.First+later), t.Tail, later)
	case first.Triple == last.Triple:
		return appendSeconds(all, t.Tail[1:], later)
	}
	return appendSeconds(all, t.Tail, later)
}

func appendSeconds(all []int, l []api.Change, later int) []int {
	for _, c := range l {
		all = append(all, c.Sec+later)
	}
	return all
}

// firstBehind is the first second behind a year: each year has its days, and each leap year one more.
func firstBehind(year int) int {
	years := year + 1 - cycleFirst
	leaps := (years+3)/4 - (years+99)/100 + (years+399)/400
	return api.MinSec + (years*yearDays+leaps-leapYear)*daySecs
}
