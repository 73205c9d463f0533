package index

import (
	"slices"
	"sort"

	"analemma/api"
)

// list has what a table has at MinSec ahead of its changes, up to the last of the second time that it goes through its
// tail. From second turn on, that of the last of the first time, all of it comes again each cycle.
type list struct {
	changes []api.Change
	turn    int
}

// stretch is all seconds from one change to ahead of the next, or to the range's ends.
type stretch struct {
	from, to int
	triple   api.Triple
}

// listOf takes tables that may be. One without a change the second time has none ever after: its turn never comes.
func listOf(t api.Table) list {
	all := make([]api.Change, 0, 2+len(t.Changes)+2*len(t.Tail))
	all = append(all, api.Change{Sec: api.MinSec, Triple: t.Base})
	all = append(all, t.Changes...)
	atEnd := all[len(all)-1].Triple
	all = append(all, t.Tail...)
	once := len(all)
	all = appendAgain(all, t, atEnd)
	if len(all) == once {
		return list{changes: all, turn: api.MaxSec}
	}
	return list{changes: all, turn: all[once-1].Sec}
}

// appendAgain is for the second time, ahead of which the table has what the last of Tail has, not what it had at the
// end of Last: that it has anew from First on. So what was a change the first time may be none now.
func appendAgain(all []api.Change, t api.Table, atEnd api.Triple) []api.Change {
	if len(t.Tail) > 0 && t.First < t.Tail[0].Sec {
		all = append(all, api.Change{Sec: t.First + api.Cycle, Triple: atEnd})
	}
	for _, c := range t.Tail {
		if c.Triple != all[len(all)-1].Triple {
			all = append(all, api.Change{Sec: c.Sec + api.Cycle, Triple: c.Triple})
		}
	}
	return all
}

// stretch goes back by whole cycles to the first one behind turn. Of two entries at MinSec it finds the change.
func (l list) stretch(sec int) stretch {
	later := max(0, sec-l.turn) / api.Cycle * api.Cycle
	i := sort.Search(len(l.changes), func(i int) bool { return l.changes[i].Sec > sec-later })
	s := stretch{from: l.changes[i-1].Sec + later, to: api.MaxSec, triple: l.changes[i-1].Triple}
	if i < len(l.changes) {
		s.to = min(s.to, l.changes[i].Sec+later-1)
	}
	return s
}

func copied(t api.Table) api.Table {
	t.Changes, t.Tail = slices.Clone(t.Changes), slices.Clone(t.Tail)
	return t
}
