package expand_test

// Each test names what it holds of promises 17.1 and 17.2 (shared/doc/17-expand.md). What events a zone
// should have is told by the library's time, all years of all lines gone over day by day and laid into a
// map by their seconds, beside values that are written out by hand.

import (
	"maps"
	"math"
	"math/rand"
	"reflect"
	"slices"
	"sort"
	"testing"
	"time"

	"analemma/api"
	"analemma/expand"
	"analemma/rules"
)

const (
	most  = math.MaxInt
	least = math.MinInt
	first = -377705116800 // the first second of -9999
	end   = 253402300799  // the last one of 9999
	land  = "zone Mid/Land\nbase +01:00 CET\n" +
		"rule 1996 on mar last-sun 01:00 +00:00 +02:00 dst CEST\nrule 1996 on oct last-sun 01:00 +00:00 +01:00 std CET\n"
)

func read(t *testing.T, s string) api.Source {
	t.Helper()
	z, line, e := rules.Parse(s)
	if e != api.OK {
		t.Fatalf("line %d: %d", line, e)
	}
	return z
}

func midnight(y, m, d int) time.Time {
	return time.Date(y, time.Month(m), d, 0, 0, 0, 0, time.UTC)
}

func second(y, m, d, h int) int {
	return int(midnight(y, m, d).Unix()) + h*3600
}

// dueDay is a rule's day of a year by going over days one by one; none, if the month has no such one.
func dueDay(l api.Line, y int) (time.Time, bool) {
	at, step, length := l.Day.N, 0, midnight(y, l.Month+1, 0).Day()
	switch l.Day.Kind {
	case 0:
		return midnight(y, l.Month, at), at <= length
	case 1:
		at, step = length, -1
	case 2:
		step = 1
	case 3:
		step = -1
	}
	for int(midnight(y, l.Month, at).Weekday()) != l.Day.W%7 {
		at += step
	}
	return midnight(y, l.Month, at), true
}

// dueMoments are all seconds of a line, in range.
func dueMoments(l api.Line) []int {
	if l.Kind == 1 {
		return []int{l.Sec}
	}
	var out []int
	for y := l.From; y <= min(l.To, 10000); y++ {
		day, ok := dueDay(l, y)
		if sec := int(day.Unix()) + l.Time - l.Read; ok && sec >= first && sec <= end {
			out = append(out, sec)
		}
	}
	return out
}

// history is all that a zone has: its events, rising, what it has behind each, and Base ahead of them.
type history struct {
	base   api.Triple
	events []api.Change
}

func dueHistory(z api.Source) history {
	all := map[int]api.Triple{}
	for _, l := range z.Lines { // a later line's overwrites
		for _, sec := range dueMoments(l) {
			all[sec] = l.Triple
		}
	}
	h := history{base: z.Base}
	for _, sec := range slices.Sorted(maps.Keys(all)) {
		h.events = append(h.events, api.Change{Sec: sec, Triple: all[sec]})
	}
	return h
}

func (h history) at(sec int) api.Triple {
	i := sort.Search(len(h.events), func(i int) bool { return h.events[i].Sec > sec })
	if i == 0 {
		return h.base
	}
	return h.events[i-1].Triple
}

func (h history) of(from, to int) (events, changes []api.Change) {
	low, high := second(from, 1, 1, 0), second(to+1, 1, 1, 0)
	for _, c := range h.events {
		if c.Sec < low || c.Sec >= high {
			continue
		}
		events = append(events, c)
		if h.at(c.Sec-1) != c.Triple {
			changes = append(changes, c)
		}
	}
	return events, changes
}

func holdYears(t *testing.T, z api.Source, h history, from, to int) {
	t.Helper()
	events, changes := h.of(from, to)
	if l, e := expand.Events(z, from, to); e != api.OK || !slices.Equal(l, events) {
		t.Fatalf("Events(%d, %d): %d of %d, want %d: %v", from, to, e, len(l), len(events), z)
	}
	if l, e := expand.Changes(z, from, to); e != api.OK || !slices.Equal(l, changes) {
		t.Fatalf("Changes(%d, %d): %d of %d, want %d: %v", from, to, e, len(l), len(changes), z)
	}
}

func holdAt(t *testing.T, z api.Source, h history, sec int) {
	t.Helper()
	if sec < first || sec > end {
		return
	}
	if l, e := expand.At(z, sec); e != api.OK || l != h.at(sec) {
		t.Fatalf("At(%d): %v %d, want %v: %v", sec, l, e, h.at(sec), z)
	}
}

// holdZone asks for the ends of the range, of each line's years, and about many of the events.
func holdZone(t *testing.T, z api.Source) {
	t.Helper()
	h := dueHistory(z)
	holdYears(t, z, h, -9999, 9999)
	years := []int{-9999, -9998, 0, 1970, 2024, 9998, 9999}
	for _, l := range z.Lines {
		near := []int{l.From, min(l.To, 9998)}
		if l.Kind == 1 {
			near = []int{time.Unix(int64(l.Sec), 0).UTC().Year()}
		}
		for _, y := range near {
			years = append(years, max(y-1, -9999), y, min(y+1, 9999))
		}
	}
	for _, y := range years {
		holdYears(t, z, h, y, y)
		holdYears(t, z, h, y, min(y+9, 9999))
		for _, m := range []int{1, 4, 12} {
			holdAt(t, z, h, second(y, m, 4, 0))
		}
		holdAt(t, z, h, second(y, 1, 1, 0))
		holdAt(t, z, h, second(y, 1, 1, 0)-1)
	}
	for i := 0; i < len(h.events); i += 1 + len(h.events)/60 {
		sec := h.events[i].Sec
		for _, at := range []int{sec - 1, sec, sec + 1, sec + 40000000} {
			holdAt(t, z, h, at)
		}
	}
	holdAt(t, z, h, first)
	holdAt(t, z, h, end)
}

// 17.1: the document's zone.
func TestDocumentZone(t *testing.T) {
	z := read(t, land)
	summer, winter := api.Triple{Offset: 7200, Dst: true, Abbr: "CEST"}, api.Triple{Offset: 3600, Abbr: "CET"}
	march, october := second(2024, 3, 31, 1), second(2024, 10, 27, 1)
	want := []api.Change{{Sec: march, Triple: summer}, {Sec: october, Triple: winter}}
	if l, e := expand.Changes(z, 2024, 2024); e != api.OK || !slices.Equal(l, want) {
		t.Errorf("%v %d", l, e)
	}
	if l, e := expand.Events(z, 2024, 2024); e != api.OK || !slices.Equal(l, want) {
		t.Errorf("%v %d", l, e)
	}
	if l, e := expand.Events(z, -9999, 1995); e != api.OK || len(l) != 0 {
		t.Errorf("%v %d", l, e)
	}
	if l, e := expand.Events(z, -9999, 9999); e != api.OK || len(l) != 2*(9999-1995) {
		t.Errorf("%d %d", len(l), e)
	}
	for _, x := range []struct {
		sec  int
		want api.Triple
	}{{march - 1, winter}, {march, summer}, {october - 1, summer}, {october, winter}, {first, winter}, {end, winter},
		{second(9998, 7, 1, 0), summer}, {second(1996, 7, 1, 0), summer}, {second(1995, 7, 1, 0), winter}} {
		if a, e := expand.At(z, x.sec); a != x.want || e != api.OK {
			t.Errorf("At(%d): %v %d", x.sec, a, e)
		}
	}
	holdZone(t, z)
}

// 17.1: of two at one second the later line's counts, of once and yearly in any order, and of three.
func TestSameSecond(t *testing.T) {
	a, b, c := "at 2000-01-01T00:00:00 +01:00 std A\n", "at 2000-01-01T00:00:00 +02:00 std B\n", "rule 1999 2001 jan 1 01:00 +01:00 +03:00 dst C\n"
	for text, want := range map[string]string{a + b: "B", b + a: "A", a + c: "C", c + a: "A", a + c + b: "B", b + a + c: "C"} {
		z := read(t, "zone Z\nbase -01:00 U\n"+text)
		l, e := expand.Events(z, 2000, 2000)
		if e != api.OK || len(l) != 1 || l[0].Sec != second(2000, 1, 1, 0) || l[0].Triple.Abbr != want {
			t.Errorf("%q: %v %d", text, l, e)
		}
		if at, e := expand.At(z, second(2000, 1, 1, 0)); at.Abbr != want || e != api.OK {
			t.Errorf("%q: %v %d", text, at, e)
		}
		holdZone(t, z)
	}
}

// 17.1: an event with what the zone has is no change; the zone's own base may come again.
func TestSameTriple(t *testing.T) {
	z := read(t, "zone Z\nbase +01:00 A\nat 2000-01-01T00:00:00 +01:00 std A\nat 2001-01-01T00:00:00 +02:00 std A\nat 2002-01-01T00:00:00 +02:00 std A\n"+
		"at 2003-01-01T00:00:00 +02:00 dst A\nat 2004-01-01T00:00:00 +02:00 dst B\nat 2005-01-01T00:00:00 +01:00 std A\nat 2005-01-01T00:00:01 +01:00 std A\n")
	l, _ := expand.Changes(z, 1990, 2010)
	var years []int
	for _, c := range l {
		years = append(years, time.Unix(int64(c.Sec), 0).UTC().Year())
	}
	if !slices.Equal(years, []int{2001, 2003, 2004, 2005}) {
		t.Errorf("%v", years)
	}
	if l, e := expand.Changes(z, 2002, 2002); len(l) != 0 || e != api.OK {
		t.Errorf("ahead of the years stands what counts: %v %d", l, e)
	}
	if l, e := expand.Events(z, 1990, 2010); len(l) != 7 || e != api.OK {
		t.Errorf("%v %d", l, e)
	}
	holdZone(t, z)
}

// 17.1: what a later line takes the second of is no event, so it changes nothing for the next one either.
func TestLaterLineHidesChange(t *testing.T) {
	z := read(t, "zone Z\nbase +01:00 A\nat 2000-01-01T00:00:00 +02:00 std B\nat 2000-01-01T00:00:00 +01:00 std A\nat 2001-01-01T00:00:00 +01:00 std A\n")
	if l, e := expand.Changes(z, -9999, 9999); len(l) != 0 || e != api.OK {
		t.Errorf("%v %d", l, e)
	}
	holdZone(t, z)
}

// 17.1: a moment of a year that lies, read as UTC, in a year beside it is an event of that one.
func TestMomentsInYearsBeside(t *testing.T) {
	for _, text := range []string{
		"rule 1990 2010 jan 1 00:00 +01:00 +01:00 std A\nrule 1990 2010 jul 1 00:00 +00:00 +02:00 dst B\n", // a year ahead
		"rule 1990 2010 dec 31 24:00 -18:00 +01:00 std A\nrule 1990 2010 jul 1 00:00 +00:00 +02:00 dst B\n",
		"rule 1990 2010 jan sun<=1 00:00 +18:00 +01:00 std A\nrule 1990 2010 dec mon>=31 24:00 -18:00 +02:00 dst B\n",
		"rule -9999 on jan 1 00:00 +00:01 +01:00 std A\nrule -9999 on jul 1 00:00 +00:00 +02:00 dst B\n",
		"rule 0 on dec mon>=31 24:00 -18:00 +01:00 std A\nrule 0 on jan tue<=1 00:00 +00:00 +02:00 dst B\n",
		"rule -9999 -9999 jan sat<=1 00:00 +18:00 +01:00 std A\nrule 9999 on jan 1 00:00 +00:00 +02:00 dst B\n",
	} {
		holdZone(t, read(t, "zone Z\nbase -01:00 U\n"+text))
	}
	z := read(t, "zone Z\nbase -01:00 U\nrule 2000 only jan 1 00:00 +00:01 +01:00 std A\n")
	if l, e := expand.Events(z, 1999, 1999); len(l) != 1 || l[0].Sec != second(2000, 1, 1, 0)-60 || e != api.OK {
		t.Errorf("%v %d", l, e)
	}
	if l, e := expand.Events(z, 2000, 2000); len(l) != 0 || e != api.OK {
		t.Errorf("%v %d", l, e)
	}
}

// 17.1: events are from MinSec to MaxSec, of the years MinYear to MaxYear + 1 alone.
func TestEndsOfRange(t *testing.T) {
	z := read(t, "zone Z\nbase -01:00 U\nrule -9999 on jan 1 00:00 +00:00:01 +01:00 std A\n")
	l, e := expand.Events(z, -9999, 9999)
	if len(l) != 19999 || e != api.OK || l[0].Sec != second(-9998, 1, 1, 0)-1 || l[len(l)-1].Sec != end {
		t.Errorf("%d %d", len(l), e) // that of -9999 is ahead of MinSec, and that of 10000 is MaxSec
	}
	if a, e := expand.At(z, second(-9998, 1, 1, 0)-2); a != z.Base || e != api.OK {
		t.Errorf("%v %d", a, e)
	}
	holdZone(t, z)
	z = read(t, "zone Z\nbase -01:00 U\nrule -9999 on jan 1 00:00 +00:00 +01:00 std A\nrule -9999 on dec 31 24:00 +00:00 +02:00 std B\n")
	if a, e := expand.At(z, first); a.Abbr != "A" || e != api.OK {
		t.Errorf("%v %d", a, e)
	}
	if l, e := expand.Changes(z, -9999, -9999); len(l) != 1 || l[0].Sec != first || e != api.OK {
		t.Errorf("%v %d", l, e) // the end of December of -10000 is in no year
	}
	holdZone(t, z)
	z = read(t, "zone Z\nbase -01:00 U\nat -9999-01-01T00:00:00 +01:00 std A\nat 9999-12-31T23:59:59 +02:00 std B\n")
	if l, e := expand.Changes(z, -9999, 9999); len(l) != 2 || l[0].Sec != first || l[1].Sec != end || e != api.OK {
		t.Errorf("%v %d", l, e)
	}
	holdZone(t, z)
}

// 17.1: a day that few years have, or none: what its last event has stands for as long.
func TestRareDays(t *testing.T) {
	holdZone(t, read(t, "zone Z\nbase -01:00 U\nrule 1890 on feb 29 00:00 +00:00 +01:00 std A\n"))
	holdZone(t, read(t, "zone Z\nbase -01:00 U\nrule 1897 on feb 30 00:00 +00:00 +01:00 std A\nrule -9999 9999 jun 31 00:00 +00:00 +01:00 std B\n"))
	holdZone(t, read(t, "zone Z\nbase -01:00 U\nrule 1890 1903 feb 29 24:00 -18:00 +01:00 std A\nat 1880-01-01T00:00:00 +02:00 std B\n"))
	holdZone(t, read(t, "zone Z\nbase -01:00 U\nrule -9999 on feb 29 12:00 +18:00 +01:00 std A\nrule -9999 on apr 31 00:00 +00:00 +02:00 std B\n"))
	z := read(t, "zone Z\nbase -01:00 U\nrule 1896 on feb 29 00:00 +00:00 +01:00 std A\nrule 1895 1896 mar 1 00:00 +00:00 +02:00 std B\nat 1896-02-01T00:00:00 +03:00 std C\n")
	h := dueHistory(z)
	for y := 1890; y <= 1912; y++ {
		for m := 1; m <= 12; m++ {
			holdAt(t, z, h, second(y, m, 1, 0))
		}
	}
}

// 17.1: no lines: nothing happens.
func TestNoLines(t *testing.T) {
	for _, z := range []api.Source{read(t, "zone Z\nbase -01:00 U\n"), {Name: "Z", Base: api.Triple{Abbr: "U"}, Lines: []api.Line{}}} {
		holdZone(t, z)
		if l, e := expand.Events(z, -9999, 9999); len(l) != 0 || e != api.OK {
			t.Errorf("%v %d", l, e)
		}
		if y, e := expand.Last(z); y != -9999 || e != api.OK {
			t.Errorf("%d %d", y, e)
		}
	}
}

// anyLine is a line that may be; words of few kinds, so that seconds and Triples meet.
func anyLine(r *rand.Rand, tails *int) api.Line {
	triple := api.Triple{Offset: r.Intn(3) * 3600, Dst: r.Intn(2) == 1, Abbr: string(rune('A' + r.Intn(2)))}
	if r.Intn(4) == 0 {
		return api.Line{Kind: 1, Sec: second(2000+r.Intn(3), 1+r.Intn(2), 1+r.Intn(2), r.Intn(2)), Triple: triple}
	}
	from := []int{-9999, 1990, 1999, 2000, 2001, 9990, 9998, 9999}[r.Intn(8)]
	to := min(from+[]int{0, 1, 2, 20}[r.Intn(4)], 9999)
	if *tails < 4 && r.Intn(3) == 0 {
		to, *tails = 1<<20, *tails+1
	}
	l := api.Line{Kind: 2, From: from, To: to, Month: []int{1, 2, 3, 12}[r.Intn(4)], Time: []int{0, 3600, 86400}[r.Intn(3)], Triple: triple}
	l.Read = []int{0, 3600, -3600, 64800, -64800}[r.Intn(5)]
	n, w := 1+r.Intn(31), 1+r.Intn(7)
	l.Day = []api.Day{{N: 1 + r.Intn(2)}, {N: n}, {Kind: 1, W: w}, {Kind: 2, N: n, W: w}, {Kind: 3, N: n, W: w}}[r.Intn(5)]
	return l
}

// 17.1: zones of all kinds of lines.
func TestAnyZones(t *testing.T) {
	r := rand.New(rand.NewSource(17))
	for range 150 {
		z, tails := api.Source{Name: "Z", Base: api.Triple{Abbr: "A"}}, 0
		for range r.Intn(17) {
			z.Lines = append(z.Lines, anyLine(r, &tails))
		}
		if e := rules.Check(z); e != api.OK {
			t.Fatalf("%d: %v", e, z)
		}
		holdZone(t, z)
	}
}

// bad are zones of each error that Check has.
func bad() map[api.Errno]api.Source {
	rule := api.Line{Kind: 2, From: 2000, To: 2000, Month: 1, Day: api.Day{N: 1}, Triple: api.Triple{Abbr: "A"}}
	wrong, far := rule, rule
	wrong.Month = 13
	far.Triple.Offset = 64801
	base := api.Triple{Abbr: "U"}
	return map[api.Errno]api.Source{
		api.ErrTooBig: {Name: "Z", Base: base, Lines: slices.Repeat([]api.Line{rule}, 17)},
		api.ErrSyntax: {Name: "", Base: base},
		api.ErrBadArg: {Name: "Z", Base: base, Lines: []api.Line{wrong}},
		api.ErrRange:  {Name: "Z", Base: base, Lines: []api.Line{far}},
	}
}

func dueYears(z api.Source, from, to int) api.Errno {
	list := []api.Errno{rules.Check(z)}
	if from > to {
		list = append(list, api.ErrBadArg)
	}
	if from < -9999 || from > 9999 || to < -9999 || to > 9999 {
		list = append(list, api.ErrRange)
	}
	list = slices.DeleteFunc(list, func(e api.Errno) bool { return e == api.OK })
	if len(list) == 0 {
		return api.OK
	}
	return slices.Min(list)
}

// 17.1, R2: the least error of the zone and of any years; beside it nothing.
func TestErrorsOfYears(t *testing.T) {
	zones := bad()
	zones[api.OK] = read(t, land)
	ends := []int{-9999, -10000, 9999, 10000, 2000, 2001, 0, 1<<32 + 2000, most, least}
	for fault, z := range zones {
		if e := rules.Check(z); e != fault {
			t.Fatalf("%d, want %d", e, fault)
		}
		for _, from := range ends {
			for _, to := range ends {
				due := dueYears(z, from, to)
				l, e := expand.Events(z, from, to)
				m, f := expand.Changes(z, from, to)
				if e != due || f != due || due != api.OK && len(l)+len(m) != 0 {
					t.Errorf("of %d, %d to %d: %d %d, want %d", fault, from, to, e, f, due)
				}
			}
		}
	}
}

// 17.1: years by hand: falling ones are told ahead of ones out of range.
func TestYearsByHand(t *testing.T) {
	z := read(t, land)
	for _, x := range []struct {
		from, to int
		want     api.Errno
	}{
		{2, 1, api.ErrBadArg}, {10001, 10000, api.ErrBadArg}, {most, least, api.ErrBadArg}, {2, 10000, api.ErrRange}, {-10000, 2, api.ErrRange},
		{10000, 10000, api.ErrRange}, {least, most, api.ErrRange}, {2, 2, api.OK}, {-9999, 9999, api.OK},
	} {
		if _, e := expand.Events(z, x.from, x.to); e != x.want {
			t.Errorf("%d to %d: %d, want %d", x.from, x.to, e, x.want)
		}
	}
}

// 17.1: the error of the zone, or of a second out of range, and nothing beside it.
func TestErrorsOfAt(t *testing.T) {
	zones := bad()
	zones[api.OK] = read(t, land)
	for fault, z := range zones {
		for _, sec := range []int{first, end, 0, first - 1, end + 1, most, least, 1 << 40} {
			due := fault
			if due == api.OK && (sec < first || sec > end) {
				due = api.ErrRange
			}
			if a, e := expand.At(z, sec); e != due || e != api.OK && a != (api.Triple{}) {
				t.Errorf("of %d, At(%d): %v %d, want %d", fault, sec, a, e, due)
			}
		}
	}
}

// 17.2: the year behind the greatest that lines name, at most MaxYear.
func TestLast(t *testing.T) {
	for text, want := range map[string]int{
		"": -9999,
		"rule 1996 on mar 1 00:00 +00:00 +00:00 std A\n":                                                 1997,
		"rule 1996 on mar 1 00:00 +00:00 +00:00 std A\nrule 1990 on mar 1 00:00 +00:00 +00:00 std A\n":   1997,
		"rule 1990 2005 mar 1 00:00 +00:00 +00:00 std A\nrule 1996 on mar 1 00:00 +00:00 +00:00 std A\n": 2006,
		"rule 1990 only mar 1 00:00 +00:00 +00:00 std A\n":                                               1991,
		"rule 9998 on mar 1 00:00 +00:00 +00:00 std A\n":                                                 9999,
		"rule 9999 on mar 1 00:00 +00:00 +00:00 std A\n":                                                 9999,
		"rule 1 9999 mar 1 00:00 +00:00 +00:00 std A\nat 2000-01-01T00:00:00 +00:00 std A\n":             9999,
		"rule -9999 on mar 1 00:00 +00:00 +00:00 std A\n":                                                -9998,
		"rule -9999 -9999 mar 1 00:00 +00:00 +00:00 std A\n":                                             -9998,
		"rule 2000 only jan 1 00:00 +18:00 +00:00 std A\n":                                               2001, // though its moment is in 1999
		"rule 2000 only dec mon>=31 24:00 -18:00 +00:00 std A\n":                                         2001,
		"rule 2000 only feb 30 00:00 +00:00 +00:00 std A\n":                                              2001, // named, though it has no moment
		"at 2000-12-31T23:59:59 +00:00 std A\n":                                                          2001,
		"at 2001-01-01T00:00:00 +18:00 std A\n":                                                          2002,
		"at 1969-12-31T23:59:59 -18:00 std A\n":                                                          1970,
		"at -0001-01-01T00:00:00 +00:00 std A\n":                                                         0,
		"at -9999-01-01T00:00:00 +00:00 std A\n":                                                         -9998,
		"at 9999-12-31T23:59:59 +00:00 std A\n":                                                          9999,
		"at 9998-12-31T23:59:59 +00:00 std A\n":                                                          9999,
		"at 9997-12-31T23:59:59 +00:00 std A\n":                                                          9998,
		"rule -5 -3 mar 1 00:00 +00:00 +00:00 std A\nrule -4 on mar 1 00:00 +00:00 +00:00 std A\n":       -2,
		"rule -5 -3 mar 1 00:00 +00:00 +00:00 std A\nat 0000-02-29T00:00:00 +00:00 std A\n":              1,
		"rule 1 2 mar 1 00:00 +00:00 +00:00 std A\nrule 7 on mar 1 00:00 +00:00 +00:00 std A\n":          8,
	} {
		if y, e := expand.Last(read(t, "zone Z\nbase +00:00 U\n"+text)); y != want || e != api.OK {
			t.Errorf("%q: %d %d, want %d", text, y, e, want)
		}
	}
	for fault, z := range bad() {
		if y, e := expand.Last(z); y != 0 || e != fault {
			t.Errorf("%d %d, want %d", y, e, fault)
		}
	}
}

// 17.2: both ends of every year.
func TestLastOfEveryYear(t *testing.T) {
	for y := -9999; y <= 9999; y++ {
		for _, sec := range []int{second(y, 1, 1, 0), second(y+1, 1, 1, 0) - 1} {
			z := api.Source{Name: "Z", Base: api.Triple{Abbr: "U"}, Lines: []api.Line{{Kind: 1, Sec: sec, Triple: api.Triple{Abbr: "A"}}}}
			if last, e := expand.Last(z); last != min(y+1, 9999) || e != api.OK {
				t.Fatalf("%d: %d %d", sec, last, e)
			}
		}
	}
}

// R4: the lines handed in are not changed, those behind the list's end neither, and no two answers share memory.
func TestNothingShared(t *testing.T) {
	z := read(t, land+"at 2024-03-31T01:00:00 +03:00 std X\nat 2020-01-01T00:00:00 +01:00 std CET\n")
	all := slices.Clone(z.Lines)
	z.Lines = z.Lines[:3]
	a, _ := expand.Events(z, 2024, 2024)
	b, _ := expand.Changes(z, 2024, 2024)
	keptA, keptB := slices.Clone(a), slices.Clone(b)
	for range 2 {
		c, _ := expand.Events(z, 2024, 2024)
		d, _ := expand.Changes(z, 2024, 2024)
		for i := range c {
			c[i] = api.Change{}
		}
		for i := range d {
			d[i] = api.Change{}
		}
		expand.At(z, 0)
		expand.Last(z)
	}
	if !slices.Equal(a, keptA) || !slices.Equal(b, keptB) || !reflect.DeepEqual(z.Lines[:4], all) {
		t.Errorf("%v %v %v", a, b, z.Lines[:4])
	}
}

// R5: the same arguments have the same answers, whatever was asked between.
func TestSameAgain(t *testing.T) {
	z := read(t, land)
	a, _ := expand.Changes(z, 1990, 2030)
	expand.Changes(z, 2000, 2001)
	expand.Changes(read(t, "zone Z\nbase +00:00 U\n"), 1990, 2030)
	if b, e := expand.Changes(z, 1990, 2030); e != api.OK || !slices.Equal(a, b) {
		t.Errorf("%v, then %v", a, b)
	}
}
