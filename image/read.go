package image

import (
	"strings"

	"analemma/api"
)

const intBits = 64

// reader has what is not read yet. It is asked for no more than there is.
type reader struct{ rest string }

// read tells whether s is as long as it says itself. What no image has (another mark, more letters than there is place
// for, a byte behind them) it passes over: laid has none of that.
func read(s string) (api.Table, bool) {
	if len(s) < api.HeadBytes {
		return api.Table{}, false
	}
	r := &reader{rest: s}
	r.take(len(mark))
	t := api.Table{Name: r.text(r.number(1), api.MaxName), Base: r.triple(), Last: r.signed(4), First: r.signed(8)}
	changes, tail := r.number(2), r.number(2)
	if len(s) != size(changes+tail) {
		return api.Table{}, false
	}
	t.Changes, t.Tail = r.changes(changes), r.changes(tail)
	return t, true
}

func (r *reader) changes(n int) []api.Change {
	l := make([]api.Change, n)
	for i := range l {
		l[i] = api.Change{Sec: r.signed(8), Triple: r.triple()}
	}
	return l
}

func (r *reader) triple() api.Triple {
	offset, letters := r.signed(4), r.number(1)
	return api.Triple{Offset: offset, Dst: letters >= dstMark, Abbr: r.text(letters%dstMark, api.MaxAbbr)}
}

// text keeps nothing of what was handed in to Decode.
func (r *reader) text(length, place int) string {
	return strings.Clone(r.take(place)[:min(length, place)])
}

// signed brings the sign to where an int has it, and back.
func (r *reader) signed(bytes int) int {
	ahead := intBits - 8*bytes
	return r.number(bytes) << ahead >> ahead
}

// number is one from 0 on, but of eight bytes, where it may fall below.
func (r *reader) number(bytes int) int {
	part, n := r.take(bytes), 0
	for i := range len(part) {
		n = n<<8 | int(part[i])
	}
	return n
}

func (r *reader) take(bytes int) string {
	part := r.rest[:bytes]
	r.rest = r.rest[bytes:]
	return part
}
