package table_test

// Each test names what it holds of promises 19.1 to 19.4 (shared/doc/19-table.md). What a table should have at a
// second is told by going over its lists from the beginning on; which tables may be by asking for each error by
// itself; a table's changes by going over all seconds at which it may have one, in all cycles up to the range's end.

import (
	"math"
	"math/rand"
	"reflect"
	"slices"
	"testing"
	"time"

	"analemma/api"
	"analemma/crowd"
	"analemma/expand"
	"analemma/rules"
	"analemma/table"
	"analemma/words"
)

const (
	most   = math.MaxInt
	least  = math.MinInt
	first  = -377705116800 // the first second of -9999
	end    = 253402300799  // the last one of 9999
	cycle  = 12622780800
	window = 129600
	land   = "zone Mid/Land\nbase +01:00 CET\n" +
		"rule 1996 on mar last-sun 01:00 +00:00 +02:00 dst CEST\nrule 1996 on oct last-sun 01:00 +00:00 +01:00 std CET\n"
	head = "zone Z\nbase +00:00 U\n"
)

var (
	u = api.Triple{Abbr: "U"}
	a = api.Triple{Offset: 3600, Abbr: "A"}
	b = api.Triple{Offset: 7200, Dst: true, Abbr: "B"}
	c = api.Triple{Offset: -3600, Abbr: "C"}
)

func second(y, m, d, h int) int {
	return int(time.Date(y, time.Month(m), d, h, 0, 0, 0, time.UTC).Unix())
}

// behind is the first second behind a year.
func behind(year int) int {
	return second(year+1, 1, 1, 0)
}

func read(t *testing.T, s string) api.Source {
	t.Helper()
	z, line, e := rules.Parse(s)
	if e != api.OK {
		t.Fatalf("line %d: %d: %s", line, e, s)
	}
	return z
}

func load(t *testing.T, s string) api.Table {
	t.Helper()
	x, e := table.Load(s)
	if e != api.OK {
		t.Fatalf("%d: %s", e, s)
	}
	return x
}

func same(x, y api.Table) bool {
	return x.Name == y.Name && x.Base == y.Base && x.Last == y.Last && x.First == y.First &&
		slices.Equal(x.Changes, y.Changes) && slices.Equal(x.Tail, y.Tail)
}

func copied(x api.Table) api.Table {
	x.Changes, x.Tail = slices.Clone(x.Changes), slices.Clone(x.Tail)
	return x
}

func empty(x api.Table) bool {
	return same(x, api.Table{})
}

// dueAt goes by the words of 19.2, one change after the other.
func dueAt(x api.Table, sec int) api.Triple {
	has := x.Base
	for _, l := range x.Changes {
		if l.Sec <= sec {
			has = l.Triple
		}
	}
	start := behind(x.Last)
	if sec < start || len(x.Tail) == 0 {
		return has
	}
	whole := 0
	for sec >= start+cycle {
		sec, whole = sec-cycle, whole+1
	}
	if whole > 0 && sec < x.First {
		has = x.Tail[len(x.Tail)-1].Triple
	}
	for _, l := range x.Tail {
		if l.Sec <= sec {
			has = l.Triple
		}
	}
	return has
}

// dueChanges are the seconds in range at which x has another Triple than at the second ahead: Base ahead of MinSec.
func dueChanges(x api.Table) []int {
	var may []int
	for _, l := range x.Changes {
		may = append(may, l.Sec)
	}
	for later := 0; len(x.Tail) > 0 && behind(x.Last)+later <= end; later += cycle {
		may = append(may, x.First+later)
		for _, l := range x.Tail {
			may = append(may, l.Sec+later)
		}
	}
	slices.Sort(may)
	var out []int
	for _, sec := range slices.Compact(may) {
		had := x.Base
		if sec > first {
			had = dueAt(x, sec-1)
		}
		if sec >= first && sec <= end && dueAt(x, sec) != had {
			out = append(out, sec)
		}
	}
	return out
}

func dueCrowded(secs []int) bool {
	for i := 3; i < len(secs); i++ {
		if secs[i]-secs[i-3] <= window {
			return true
		}
	}
	return false
}

// dueNext is for any sec.
func dueNext(changes []int, sec int) (int, bool) {
	for _, at := range changes {
		if at > sec && at > first {
			return at, true
		}
	}
	return 0, false
}

// dueCheck asks for each error by itself.
func dueCheck(x api.Table) api.Errno {
	all := slices.Concat([]api.Change{{Triple: x.Base}}, x.Changes, x.Tail)
	bad := func(l api.Change) bool { return words.Abbr(l.Triple.Abbr) != api.OK }
	far := func(l api.Change) bool {
		return l.Triple.Offset < -64800 || l.Triple.Offset > 64800 || l.Sec < first || l.Sec > end
	}
	switch {
	case len(x.Changes) > 2000 || len(x.Tail) > 2000:
		return api.ErrTooBig
	case words.Name(x.Name) != api.OK || slices.ContainsFunc(all, bad):
		return api.ErrSyntax
	case x.Base.Dst || x.Last < -9999 || x.Last > 9999 || !dueOrder(x):
		return api.ErrBadArg
	case slices.ContainsFunc(all, far):
		return api.ErrRange
	case dueCrowded(dueChanges(x)):
		return api.ErrCrowded
	}
	return api.OK
}

func dueOrder(x api.Table) bool {
	start, had, prior := behind(x.Last), x.Base, 0
	for i, l := range x.Changes {
		if i > 0 && l.Sec <= prior || l.Sec >= start || l.Triple == had {
			return false
		}
		had, prior = l.Triple, l.Sec
	}
	if len(x.Tail) == 0 {
		return x.First == 0
	}
	atEnd := had
	for i, l := range x.Tail {
		if i > 0 && l.Sec <= prior || l.Sec < start || l.Sec >= start+cycle || l.Sec > end || l.Triple == had {
			return false
		}
		had, prior = l.Triple, l.Sec
	}
	if x.Last == 9999 || x.First < start || x.First > x.Tail[0].Sec {
		return false
	}
	return had != atEnd || x.First == x.Tail[0].Sec
}

// holdTable asks for all of it: its Check, what it has about each second of some, and what is next there.
func holdTable(t *testing.T, x api.Table, secs []int) api.Errno {
	t.Helper()
	e := dueCheck(x)
	if got := table.Check(x); got != e {
		t.Fatalf("Check: %d, want %d: %+v", got, e, x)
	}
	var changes []int
	if e == api.OK {
		changes = dueChanges(x)
	}
	for _, sec := range append(secs, first, end, least, most, 0) {
		for _, sec := range []int{sec - 1, sec, sec + 1} {
			want, wanted := api.Triple{}, e
			if e == api.OK && (sec < first || sec > end) {
				wanted = api.ErrRange
			} else if e == api.OK {
				want = dueAt(x, sec)
			}
			if got, e := table.At(x, sec); got != want || e != wanted {
				t.Fatalf("At(%d): %v %d, want %v %d: %+v", sec, got, e, want, wanted, x)
			}
			want2, ok2 := dueNext(changes, sec)
			if got, ok := table.Next(x, sec); got != want2 || ok != ok2 {
				t.Fatalf("Next(%d): %d %v, want %d %v: %+v", sec, got, ok, want2, ok2, x)
			}
		}
	}
	return e
}

// 19.1: the document's zone.
func TestLoadOfLand(t *testing.T) {
	x := load(t, land)
	cet, cest := api.Triple{Offset: 3600, Abbr: "CET"}, api.Triple{Offset: 7200, Dst: true, Abbr: "CEST"}
	if x.Name != "Mid/Land" || x.Base != cet || x.Last != 1997 || len(x.Changes) != 4 || len(x.Tail) != 800 {
		t.Fatalf("%s %v %d %d %d", x.Name, x.Base, x.Last, len(x.Changes), len(x.Tail))
	}
	for i, want := range []api.Change{{Sec: second(1996, 3, 31, 1), Triple: cest}, {Sec: second(1996, 10, 27, 1), Triple: cet},
		{Sec: second(1997, 3, 30, 1), Triple: cest}, {Sec: second(1997, 10, 26, 1), Triple: cet}} {
		if x.Changes[i] != want {
			t.Errorf("%d: %v, want %v", i, x.Changes[i], want)
		}
	}
	for i, want := range map[int]api.Change{0: {Sec: second(1998, 3, 29, 1), Triple: cest}, 1: {Sec: second(1998, 10, 25, 1), Triple: cet},
		52: {Sec: second(2024, 3, 31, 1), Triple: cest}, 798: {Sec: second(2397, 3, 30, 1), Triple: cest}, 799: {Sec: second(2397, 10, 26, 1), Triple: cet}} {
		if x.Tail[i] != want {
			t.Errorf("%d: %v, want %v", i, x.Tail[i], want)
		}
	}
	if x.First != x.Tail[0].Sec || table.Check(x) != api.OK {
		t.Errorf("%d %d", x.First, table.Check(x))
	}
	for sec, want := range map[int]api.Triple{second(9998, 7, 1, 0): cest, second(9998, 12, 1, 0): cet, first: cet, end: cet,
		second(1996, 3, 31, 1) - 1: cet, second(1996, 3, 31, 1): cest, second(2024, 10, 27, 1) - 1: cest, second(2024, 10, 27, 1): cet,
		second(2398, 3, 29, 1) - 1: cet, second(2398, 3, 29, 1): cest, second(9999, 10, 31, 1) - 1: cest, second(9999, 10, 31, 1): cet} {
		if got, e := table.At(x, sec); got != want || e != api.OK {
			t.Errorf("At(%d): %v %d, want %v", sec, got, e, want)
		}
	}
}

// leap has two events in each leap year alone, so that what is ahead of the first one of Tail may be any.
func leap(from, once string) string {
	return head + "rule " + from + " on feb 29 00:00 +00:00 +01:00 std A\nrule " + from + " on feb 29 12:00 +00:00 +02:00 dst B\n" + once
}

// 19.1: Last, how many there are in each list, First.
func TestCompileByHand(t *testing.T) {
	for i, x := range []struct {
		text                       string
		last, changes, tail, first int
	}{
		{head, -9999, 0, 0, 0},
		{head + "at 2001-06-01T00:00:00 +01:00 std A\n", 2002, 1, 0, 0},
		{head + "at 2001-06-01T00:00:00 +00:00 std U\n", 2002, 0, 0, 0}, // what changes nothing is named, too
		{head + "at -9999-01-01T00:00:00 +01:00 std A\n", -9998, 1, 0, 0},
		{head + "at 9999-12-31T23:59:59 +01:00 std A\n", 9999, 1, 0, 0},
		{head + "rule 2000 2009 mar 1 00:00 +00:00 +01:00 std A\nrule 2000 2009 jun 1 00:00 +00:00 +02:00 dst B\n", 2010, 20, 0, 0},
		{head + "rule 2000 on mar 1 00:00 +00:00 +01:00 std A\n", 2001, 1, 0, 0}, // the same again and again
		{head + "rule 2000 on mar 1 00:00 +00:00 +01:00 std A\nrule 2000 on jun 1 00:00 +00:00 +02:00 dst B\n", 2001, 4, 800, second(2002, 3, 1, 0)},
		{head + "rule -9999 on mar 1 00:00 +00:00 +01:00 std A\nrule 0 on jun 1 00:00 +00:00 +02:00 dst B\n", 1, 4, 800, second(2, 3, 1, 0)},
		{head + "rule 2000 on feb 31 00:00 +00:00 +01:00 std A\n", 2001, 0, 0, 0}, // no event at all
		{head + "rule 9600 on mar 1 00:00 +00:00 +01:00 std A\nrule 9600 on jun 1 00:00 +00:00 +02:00 dst B\n", 9601, 4, 2 * 398, second(9602, 3, 1, 0)},
		{head + "rule 9597 on mar 1 00:00 +00:00 +01:00 std A\nrule 9598 on jun 1 00:00 +00:00 +02:00 dst B\n", 9599, 4, 800, second(9600, 3, 1, 0)},
		{head + "rule 9998 on mar 1 00:00 +00:00 +01:00 std A\nrule 9997 on jun 1 00:00 +00:00 +02:00 dst B\n", 9999, 5, 0, 0},
		{head + "rule 9997 on mar 1 00:00 +00:00 +01:00 std A\nrule 9997 on jun 1 00:00 +00:00 +02:00 dst B\n", 9998, 4, 2, second(9999, 3, 1, 0)},
		{head + "rule 9997 on mar 1 00:00 +00:00 +01:00 std A\nrule 9999 on jun 1 00:00 +00:00 +02:00 dst B\n", 9999, 2, 0, 0},
		{head + "rule 9997 on jan 1 00:00 +18:00 +01:00 std A\nrule 9997 on jun 1 00:00 +00:00 +02:00 dst B\n", 9998, 5, 2, second(9999, 6, 1, 0)}, // that of 10000 is in the tail
		{leap("2000", ""), 2001, 2, 194, second(2004, 2, 29, 0)},
		{leap("2000", "at 2001-06-01T00:00:00 +01:00 std A\n"), 2002, 3, 193, second(2004, 2, 29, 0)}, // the first event is no change, but is one in the next cycle
		{leap("2000", "at 2001-06-01T00:00:00 -01:00 std C\n"), 2002, 3, 194, second(2004, 2, 29, 0)},
		{leap("2000", "at 2001-06-01T00:00:00 +02:00 dst B\n"), 2002, 2, 194, second(2004, 2, 29, 0)},
		{leap("9900", "at 9953-06-01T00:00:00 +01:00 std A\n"), 9954, 2*13 + 1, 2*11 - 1, second(9956, 2, 29, 0)}, // cut off at MaxYear
		{leap("9900", "at 9995-06-01T00:00:00 +01:00 std A\n"), 9996, 2 * 24, 0, 0},
		{leap("2000", "at 2001-06-01T00:00:00 +01:00 std A\nrule 2000 on feb 29 18:00 +00:00 +01:00 std A\n"), 2002, 3, 2 * 97, second(2004, 2, 29, 12)}, // the last of Tail has what there was at the end of Last
		{leap("2000", "at 2001-06-01T00:00:00 -01:00 std C\nrule 2000 on feb 29 18:00 +00:00 -01:00 std C\n"), 2002, 3, 3 * 97, second(2004, 2, 29, 0)},
		{head + "rule 2000 on feb 29 00:00 +00:00 +01:00 std A\nat 2001-06-01T00:00:00 -01:00 std C\n", 2002, 2, 1, second(2004, 2, 29, 0)}, // once, in the first cycle alone
	} {
		z := read(t, x.text)
		got, e := table.Compile(z)
		if e != api.OK || got.Name != "Z" || got.Base != u || got.Last != x.last || len(got.Changes) != x.changes || len(got.Tail) != x.tail || got.First != x.first {
			t.Errorf("%d: %d: Last %d, %d changes, %d in Tail, First %d, want %v", i, e, got.Last, len(got.Changes), len(got.Tail), got.First, x)
		}
		if again, e := table.Load(x.text); e != api.OK || !same(again, got) {
			t.Errorf("%d: Load %d", i, e)
		}
		holdZone(t, z)
	}
}

// dueTable goes by the words of 19.1; it is made of crowded zones, too.
func dueTable(t *testing.T, z api.Source) api.Table {
	t.Helper()
	last, e := expand.Last(z)
	if e != api.OK {
		t.Fatalf("%d: %v", e, z)
	}
	x := api.Table{Name: z.Name, Base: z.Base, Last: last}
	x.Changes, _ = expand.Changes(z, -9999, last)
	if last == 9999 {
		return x
	}
	x.Tail, _ = expand.Changes(z, last+1, min(last+400, 9999))
	if n := len(x.Tail); n > 0 {
		events, _ := expand.Events(z, last+1, 9999)
		atEnd, _ := expand.At(z, behind(last)-1)
		x.First = x.Tail[0].Sec
		if events[0].Triple == atEnd && x.Tail[n-1].Triple != atEnd {
			x.First = events[0].Sec
		}
	}
	return x
}

// holdZone holds Compile against dueTable, and that one's Check, At and Next against what the zone has.
func holdZone(t *testing.T, z api.Source) api.Errno {
	t.Helper()
	due, want := dueTable(t, z), api.OK
	crowded, _ := crowd.Crowded(z)
	if crowded {
		want = api.ErrCrowded
	}
	if len(due.Changes) > 2000 {
		want = api.ErrTooBig
	}
	x, e := table.Compile(z)
	if e != want || e == api.OK && !same(x, due) || e != api.OK && !empty(x) {
		t.Fatalf("Compile: %d, want %d: %+v\n%+v", e, want, z, x)
	}
	if got := table.Check(due); got != want {
		t.Fatalf("Check: %d, want %d: %+v", got, want, z)
	}
	if want == api.OK {
		holdSeconds(t, z, x)
	}
	return want
}

// holdSeconds asks about changes and events of the zone all over the range, and about the cycles' ends.
func holdSeconds(t *testing.T, z api.Source, x api.Table) {
	t.Helper()
	changes, _ := expand.Changes(z, -9999, 9999)
	var secs, events []int
	for _, l := range changes {
		secs = append(secs, l.Sec)
	}
	all, _ := expand.Events(z, -9999, 9999)
	for i := 0; i < len(all); i += 1 + len(all)/20 {
		events = append(events, all[i].Sec)
	}
	for i := 0; i < len(secs); i += 1 + len(secs)/20 {
		events = append(events, secs[i])
	}
	last := (end - behind(x.Last)) / cycle
	for _, whole := range []int{0, 1, 2, last - 1, last} {
		events = append(events, behind(x.Last)+whole*cycle, x.First+whole*cycle)
		if n := len(x.Tail); n > 0 {
			events = append(events, x.Tail[0].Sec+whole*cycle, x.Tail[n-1].Sec+whole*cycle)
		}
	}
	for _, sec := range append(events, first, end) {
		for _, sec := range []int{sec - 1, sec, sec + 1} {
			want, wanted := expand.At(z, sec)
			if got, e := table.At(x, sec); got != want || e != wanted {
				t.Fatalf("At(%d): %v %d, want %v %d: %+v", sec, got, e, want, wanted, z)
			}
			want2, ok2 := dueNext(secs, sec)
			if got, ok := table.Next(x, sec); got != want2 || ok != ok2 {
				t.Fatalf("Next(%d): %d %v, want %d %v: %+v", sec, got, ok, want2, ok2, z)
			}
		}
	}
}

// anyLine has few Triples and days, leap years' among them, and a year from that one on, or one of two far ones. Near
// ones are about the end of February.
func anyLine(r *rand.Rand, year int, near bool, tails *int) api.Line {
	triple := []api.Triple{u, a, b, c}[r.Intn(4)]
	if r.Intn(12) == 0 {
		year = []int{-9999, 9980}[r.Intn(2)]
	}
	year = min(year+r.Intn(12), 9999)
	if !near && r.Intn(4) == 0 {
		return api.Line{Kind: 1, Sec: min(second(year, 1+r.Intn(12), 1+r.Intn(31), r.Intn(24)), end), Triple: triple}
	}
	to := min(year+r.Intn(30), 9999)
	if *tails < 4 && r.Intn(3) > 0 {
		to, *tails = 1<<20, *tails+1
	}
	l := api.Line{Kind: 2, From: year, To: to, Month: 1 + r.Intn(12), Time: r.Intn(25) * 3600, Triple: triple}
	l.Read = []int{0, 3600, 64800, -64800}[r.Intn(4)]
	if near {
		l.Month, l.Day.N, l.Read = 2+r.Intn(2), 1, 0
		if l.Month == 2 {
			l.Day.N = 28 + r.Intn(2)
		}
		return l
	}
	n, w := 1+r.Intn(31), 1+r.Intn(7)
	l.Day = []api.Day{{N: n}, {N: n}, {N: 29}, {Kind: 1, W: w}, {Kind: 2, N: n, W: w}, {Kind: 3, N: n, W: w}}[r.Intn(6)]
	return l
}

// 19.1, 19.2, 19.3, 19.4, T2: zones of all kinds of lines.
func TestAnyZones(t *testing.T) {
	r := rand.New(rand.NewSource(19))
	count := map[api.Errno]int{}
	for i := range 120 {
		z, tails := api.Source{Name: "Z", Base: u}, 0
		year := []int{-9999, -9800, 0, 1999, 9590, 9990, 9998}[r.Intn(7)]
		for range r.Intn(10) {
			z.Lines = append(z.Lines, anyLine(r, year, i%2 == 0, &tails))
		}
		count[holdZone(t, z)]++
	}
	if count[api.OK] < 50 || count[api.ErrCrowded] < 10 || count[api.ErrTooBig] < 4 {
		t.Errorf("the zones are too much alike: %v", count)
	}
}

// 19.4: zones with events in leap years alone, whose first one behind Last may be no change.
func TestLeapZones(t *testing.T) {
	r := rand.New(rand.NewSource(4))
	apart := 0
	for range 60 {
		z := api.Source{Name: "Z", Base: u}
		year := []int{-9999, 1990, 9595, 9970}[r.Intn(4)] + r.Intn(8)
		for range 2 + r.Intn(2) {
			z.Lines = append(z.Lines, api.Line{Kind: 2, From: year, To: 1 << 20, Month: 2, Day: api.Day{N: 29}, Time: r.Intn(25) * 3600, Triple: []api.Triple{a, b, c}[r.Intn(3)]})
		}
		for range 1 + r.Intn(2) {
			z.Lines = append(z.Lines, api.Line{Kind: 1, Sec: second(year+r.Intn(8), 1+r.Intn(12), 3, 0), Triple: []api.Triple{a, b, c}[r.Intn(3)]})
		}
		holdZone(t, z)
		if x := dueTable(t, z); len(x.Tail) > 0 && x.First != x.Tail[0].Sec {
			apart++
		}
	}
	if apart < 8 {
		t.Errorf("the zones are too much alike: %d", apart)
	}
}

// many are two lines with two changes a year.
func many(from, to int) []api.Line {
	return []api.Line{
		{Kind: 2, From: from, To: to, Month: 3, Day: api.Day{N: 1}, Triple: a},
		{Kind: 2, From: from, To: to, Month: 6, Day: api.Day{N: 1}, Triple: b},
	}
}

// once are lines of changes at these seconds, each to another offset than the one ahead.
func once(secs ...int) []api.Line {
	var out []api.Line
	for i, sec := range secs {
		out = append(out, api.Line{Kind: 1, Sec: sec, Triple: api.Triple{Offset: 60 * (i + 1), Abbr: "A"}})
	}
	return out
}

// 19.1: chapter 15's errors, then ErrTooBig, then ErrCrowded; an empty table beside each.
func TestCompileErrors(t *testing.T) {
	crowd, more := once(0, 1, 2, 129600), once(0, 1, 2, 129601)
	late := api.Line{Kind: 1, Sec: second(1500, 1, 1, 0), Triple: c}
	for i, x := range []struct {
		z    api.Source
		want api.Errno
	}{
		{api.Source{Name: "Z", Base: u, Lines: crowd}, api.ErrCrowded}, {api.Source{Name: "Z", Base: u, Lines: more}, api.OK},
		{api.Source{Name: "Z", Base: u, Lines: many(1, 1000)}, api.OK}, {api.Source{Name: "Z", Base: u, Lines: append(many(1, 1000), late)}, api.ErrTooBig},
		{api.Source{Name: "Z", Base: u, Lines: append(many(1, 999), late)}, api.OK}, {api.Source{Name: "Z", Base: u, Lines: many(-9999, 9999)}, api.ErrTooBig},
		{api.Source{Name: "Z", Base: u, Lines: many(-9999, 1<<20)}, api.OK}, {api.Source{Name: "Z", Base: u, Lines: many(-9999, -9000)}, api.OK},
		{api.Source{Name: "Z", Base: u, Lines: append(many(1, 1<<20), many(1000, 1<<20)...)}, api.ErrTooBig}, // Last is behind what a later line names
		{api.Source{Name: "Z", Base: u, Lines: append(many(1, 1001), crowd...)}, api.ErrTooBig},
		{api.Source{Name: "Z", Base: u, Lines: append(many(1, 998), crowd...)}, api.ErrCrowded},
		{api.Source{Name: "Z", Base: u, Lines: append(many(1, 1001), once(end+1)...)}, api.ErrRange},
		{api.Source{Name: "Z", Base: u, Lines: append(crowd, once(end+1)...)}, api.ErrRange},
		{api.Source{Name: "Z", Base: api.Triple{Dst: true, Abbr: "U"}, Lines: crowd}, api.ErrBadArg},
		{api.Source{Name: "Z", Base: api.Triple{Dst: true, Abbr: "U"}, Lines: many(1, 1001)}, api.ErrBadArg},
		{api.Source{Name: "", Base: u, Lines: many(1, 1001)}, api.ErrSyntax}, {api.Source{Name: "Z", Lines: crowd}, api.ErrSyntax}, {api.Source{}, api.ErrSyntax},
		{api.Source{Name: "Z", Base: u, Lines: slices.Repeat(crowd, 5)}, api.ErrTooBig}, {api.Source{Lines: slices.Repeat(crowd, 5)}, api.ErrTooBig},
	} {
		got, e := table.Compile(x.z)
		if e != x.want || e != api.OK && !empty(got) {
			t.Errorf("%d: %d, want %d: %v", i, e, x.want, got)
		}
	}
}

// 19.1: the 36 hours of a crowd may be in one year of the tail alone, or partly in two years.
func TestCompileCrowds(t *testing.T) {
	line := func(years, day, what string) string { return "rule " + years + " " + day + " +00:00 " + what + "\n" }
	for _, x := range []struct {
		text string
		want api.Errno
	}{
		{line("2001 on", "feb 28 12:00", "+01:00 std A") + line("2001 on", "feb 29 00:00", "+02:00 std B") + line("2001 on", "feb 29 12:00", "+03:00 std C") + line("2001 on", "mar 1 00:00", "+04:00 std D"), api.ErrCrowded},
		{line("2001 on", "feb 28 11:59:59", "+01:00 std A") + line("2001 on", "feb 29 00:00", "+02:00 std B") + line("2001 on", "feb 29 12:00", "+03:00 std C") + line("2001 on", "mar 1 00:00", "+04:00 std D"), api.OK},
		{line("9997 on", "feb 28 12:00", "+01:00 std A") + line("9997 on", "feb 29 00:00", "+02:00 std B") + line("9997 on", "feb 29 12:00", "+03:00 std C") + line("9997 on", "mar 1 00:00", "+04:00 std D"), api.OK},
		{line("2000 on", "dec 31 00:00", "+01:00 std A") + line("2000 on", "dec 31 12:00", "+02:00 std B") + line("2000 on", "jan 1 00:00", "+03:00 std C") + line("2000 on", "jan 1 12:00", "+04:00 std D"), api.ErrCrowded},
		{line("2000 on", "dec 31 00:00", "+01:00 std A") + line("2000 on", "dec 31 12:00", "+02:00 std B") + line("2000 on", "jan 1 00:00", "+03:00 std C") + line("2000 on", "jan 1 12:00:01", "+04:00 std D"), api.OK},
		{line("9999 on", "dec 31 00:00", "+01:00 std A") + line("9999 on", "dec 31 12:00", "+02:00 std B") + line("9999 on", "jan 1 00:00", "+03:00 std C") + line("9999 on", "jan 1 12:00", "+04:00 std D"), api.OK},
	} {
		z := read(t, head+x.text)
		if got, e := table.Compile(z); e != x.want || e != api.OK && !empty(got) {
			t.Errorf("%d, want %d: %s", e, x.want, x.text)
		}
		holdZone(t, z)
	}
}

// 19.1: Load has chapter 15's errors, whatever the line, and those of Compile.
func TestLoadErrors(t *testing.T) {
	for text, want := range map[string]api.Errno{
		"": api.ErrSyntax, "zone": api.ErrSyntax, "zone Z": api.ErrSyntax, "zone Z\nbase +00:00": api.ErrSyntax, "zone Z\nbase +19:00 U": api.ErrRange,
		head + "rule 2 1 mar 1 00:00 +00:00 +00:00 std A": api.ErrBadArg, head + "at 2001-02-29T00:00:00 +00:00 std A": api.ErrNoSuchDay,
		string(make([]byte, 4097)): api.ErrTooBig, head + "\x00": api.ErrSyntax,
		head + "at 2000-01-01T00:00:00 +01:00 std A\nat 2000-01-01T10:00:00 +02:00 std A\nat 2000-01-01T20:00:00 +03:00 std A\nat 2000-01-02T06:00:00 +04:00 std A": api.ErrCrowded,
		head + "rule 1 1001 mar 1 00:00 +00:00 +01:00 std A\nrule 1 1001 jun 1 00:00 +00:00 +01:00 dst A":                                                           api.ErrTooBig,
	} {
		if x, e := table.Load(text); e != want || !empty(x) {
			t.Errorf("%d, want %d: %.40q", e, want, text)
		}
	}
}

// small has a change at the range's first second, a first event behind Last that changes nothing, and two in its tail.
func small() api.Table {
	start := behind(2000)
	return api.Table{Name: "Z", Base: u, Last: 2000, First: start + 100,
		Changes: []api.Change{{Sec: first, Triple: a}, {Sec: second(2000, 1, 1, 0), Triple: b}, {Sec: start - 1, Triple: c}},
		Tail:    []api.Change{{Sec: start + 1000000, Triple: a}, {Sec: start + 2000000, Triple: b}}}
}

// 19.2: values by hand, up to the end of Last, in the first cycle, in those behind it.
func TestAtByHand(t *testing.T) {
	x, start := small(), behind(2000)
	k := start + 3*cycle
	for i, y := range []struct {
		sec  int
		want api.Triple
	}{
		{first, a}, {first + 1, a}, {second(2000, 1, 1, 0) - 1, a}, {second(2000, 1, 1, 0), b}, {start - 2, b}, {start - 1, c},
		{start, c}, {start + 99, c}, {start + 100, c}, {start + 999999, c}, {start + 1000000, a}, {start + 1999999, a}, {start + 2000000, b}, {start + cycle - 1, b},
		{start + cycle, b}, {start + cycle + 99, b}, {start + cycle + 100, c}, {start + cycle + 999999, c}, {start + cycle + 1000000, a}, {start + cycle + 2000000, b},
		{k - 1, b}, {k, b}, {k + 99, b}, {k + 100, c}, {k + 999999, c}, {k + 1000000, a}, {k + 1999999, a}, {k + 2000000, b}, {end, b},
	} {
		if got, e := table.At(x, y.sec); got != y.want || e != api.OK || got != dueAt(x, y.sec) {
			t.Errorf("%d: At(%d): %v %d, want %v", i, y.sec, got, e, y.want)
		}
	}
	x.First, x.Tail = 0, nil
	for sec, want := range map[int]api.Triple{first: a, start - 2: b, start - 1: c, start: c, start + cycle: c, end: c} {
		if got, e := table.At(x, sec); got != want || e != api.OK {
			t.Errorf("At(%d): %v %d, want %v", sec, got, e, want)
		}
	}
	x = api.Table{Name: "Z", Base: u, Last: -9999}
	for _, sec := range []int{first, 0, end} {
		if got, e := table.At(x, sec); got != u || e != api.OK {
			t.Errorf("At(%d): %v %d", sec, got, e)
		}
	}
}

// 19.3: Next by hand: ahead of all, within, over the cycles' ends, behind all; a change at MinSec is none.
func TestNextByHand(t *testing.T) {
	x, start := small(), behind(2000)
	whole := start + 18*cycle // the last whole cycle ends there
	for i, y := range []struct {
		sec, want int
		ok        bool
	}{
		{least, second(2000, 1, 1, 0), true}, {first - 1, second(2000, 1, 1, 0), true}, {first, second(2000, 1, 1, 0), true}, {second(2000, 1, 1, 0) - 1, second(2000, 1, 1, 0), true},
		{second(2000, 1, 1, 0), start - 1, true}, {start - 1, start + 1000000, true}, {start, start + 1000000, true}, {start + 100, start + 1000000, true},
		{start + 1000000, start + 2000000, true}, {start + 2000000, start + cycle + 100, true}, {start + cycle, start + cycle + 100, true}, {start + cycle + 99, start + cycle + 100, true},
		{start + cycle + 100, start + cycle + 1000000, true}, {start + 2*cycle - 1, start + 2*cycle + 100, true}, {start + 5*cycle + 2000000, start + 6*cycle + 100, true},
		{whole - 1, whole + 100, true}, {whole + 100, whole + 1000000, true}, {whole + 1000000, whole + 2000000, true}, {whole + 2000000, whole + cycle + 100, true},
		{whole + cycle + 2000000, 0, false}, {end - 1, 0, false}, {end, 0, false}, {end + 1, 0, false}, {most, 0, false},
	} {
		if got, ok := table.Next(x, y.sec); got != y.want || ok != y.ok {
			t.Errorf("%d: Next(%d): %d %v, want %d %v", i, y.sec, got, ok, y.want, y.ok)
		}
	}
	x.First = 0
	if got, ok := table.Next(x, 0); got != 0 || ok {
		t.Errorf("beside an error: %d %v", got, ok)
	}
	for _, sec := range []int{least, first, 0, end, most} {
		if got, ok := table.Next(api.Table{Name: "Z", Base: u, Last: 9999}, sec); got != 0 || ok {
			t.Errorf("without a change: %d %v", got, ok)
		}
	}
}

// 19.3: Next of tails whose cycles begin in all ways, and at the range's last second.
func TestNextOfTails(t *testing.T) {
	start := behind(-9999)
	for i, x := range []api.Table{
		{Tail: []api.Change{{Sec: start + 50, Triple: a}}, First: start + 50}, // once
		{Tail: []api.Change{{Sec: start + 50, Triple: a}}, First: start + 49}, // again and again
		{Tail: []api.Change{{Sec: start, Triple: a}}, First: start},
		{Tail: []api.Change{{Sec: start + cycle - 1, Triple: a}}, First: start},
		{Tail: []api.Change{{Sec: start + cycle - 1, Triple: a}}, First: start + cycle - 2},
		{Tail: []api.Change{{Sec: start, Triple: a}, {Sec: start + 5, Triple: b}, {Sec: start + cycle - 1, Triple: a}}, First: start}, // its first one is none in later cycles
		{Tail: []api.Change{{Sec: start + 7, Triple: a}, {Sec: start + 9, Triple: b}}, First: start + 3},
		{Tail: []api.Change{{Sec: start + 7, Triple: a}, {Sec: start + 9, Triple: b}}, First: start + 7},
		{Tail: []api.Change{{Sec: start + 7, Triple: a}, {Sec: start + 9, Triple: u}}, First: start + 7},
		{Tail: []api.Change{{Sec: start + (end-start)%cycle - 1, Triple: a}, {Sec: start + (end-start)%cycle, Triple: b}}, First: start}, // at the range's last second
		{Tail: []api.Change{{Sec: start + (end-start)%cycle, Triple: a}, {Sec: start + (end-start)%cycle + 1, Triple: b}}, First: start + 9},
	} {
		x.Name, x.Base, x.Last = "Z", u, -9999
		var secs []int
		for at := start; at <= end; at += cycle {
			secs = append(secs, at, at+(x.First-start))
			for _, l := range x.Tail {
				secs = append(secs, at+(l.Sec-start))
			}
		}
		if e := holdTable(t, x, secs); e != api.OK {
			t.Errorf("%d: %d", i, e)
		}
	}
}

// 19.3: ErrTooBig by each list, at the limit and one past it.
func TestCheckLimits(t *testing.T) {
	lists := func(changes, tail int) api.Table {
		x := api.Table{Name: "Z", Base: u, Last: 2000}
		for i := range changes {
			x.Changes = append(x.Changes, api.Change{Sec: behind(0) + i*1000000, Triple: []api.Triple{a, b}[i%2]})
		}
		for i := range tail {
			x.Tail = append(x.Tail, api.Change{Sec: behind(2000) + i*1000000, Triple: []api.Triple{c, u}[i%2]})
			x.First = x.Tail[0].Sec
		}
		return x
	}
	for _, x := range []struct {
		changes, tail int
		want          api.Errno
	}{{0, 0, 0}, {2000, 0, 0}, {0, 2000, 0}, {2000, 2000, 0}, {2001, 0, api.ErrTooBig}, {0, 2001, api.ErrTooBig}, {2000, 2001, api.ErrTooBig}, {2001, 2000, api.ErrTooBig}} {
		y := lists(x.changes, x.tail)
		if e := table.Check(y); e != x.want {
			t.Errorf("%d and %d: %d, want %d", x.changes, x.tail, e, x.want)
		}
		y.Name, y.Base.Dst, y.Last, y.First = "", true, most, least
		if e := table.Check(y); e == api.ErrTooBig != (x.want == api.ErrTooBig) {
			t.Errorf("%d and %d: %d", x.changes, x.tail, e)
		}
	}
	x := lists(2000, 2000)
	if got, e := table.At(x, behind(2000)+cycle+1999*1000000); got != u || e != api.OK {
		t.Errorf("%v %d", got, e)
	}
	for _, i := range []int{0, 15, 16, 17, 1999} { // each of them is asked
		for _, l := range [][]api.Change{x.Changes, x.Tail} {
			was := l[i]
			l[i].Triple.Abbr = "A1"
			if e := table.Check(x); e != api.ErrSyntax {
				t.Errorf("%d: %d", i, e)
			}
			l[i] = was
			l[i].Triple.Offset = 64801
			if e := table.Check(x); e != api.ErrRange {
				t.Errorf("%d: %d", i, e)
			}
			l[i] = was
		}
	}
}

// 19.3: of two faults in lists far from each other the least number, whichever stands ahead.
func TestCheckOfTwoFaults(t *testing.T) {
	places := []int{0, 15, 16, 40, 59}
	for _, i := range places {
		for _, j := range places {
			x := api.Table{Name: "Z", Base: u, Last: 2000, First: behind(2000)}
			for k := range 30 {
				x.Changes = append(x.Changes, api.Change{Sec: behind(0) + k*1000000, Triple: []api.Triple{a, b}[k%2]})
				x.Tail = append(x.Tail, api.Change{Sec: behind(2000) + k*1000000, Triple: []api.Triple{c, u}[k%2]})
			}
			at := func(i int) *api.Change {
				if i < 30 {
					return &x.Changes[i]
				}
				return &x.Tail[i-30]
			}
			at(i).Triple.Offset = -64801
			if e := table.Check(x); e != api.ErrRange {
				t.Errorf("%d: %d", i, e)
			}
			at(j).Triple.Abbr += "+"
			if e := table.Check(x); e != api.ErrSyntax {
				t.Errorf("%d and %d: %d", i, j, e)
			}
			at(j).Triple.Abbr = "D"
			at(min(j, 58) + 1).Sec = at(min(j, 58)).Sec
			if e := table.Check(x); e != api.ErrBadArg {
				t.Errorf("%d and %d: %d", i, j, e)
			}
		}
	}
}

// 19.3: each thing that may not be, by itself, and what may be beside it.
func TestCheckByHand(t *testing.T) {
	start := behind(2000)
	last := func(x *api.Table) *api.Change { return &x.Tail[len(x.Tail)-1] }
	for i, x := range []struct {
		turn func(x *api.Table)
		want api.Errno
	}{
		{func(x *api.Table) {}, api.OK},
		{func(x *api.Table) { x.Name = "" }, api.ErrSyntax}, {func(x *api.Table) { x.Name = "A b" }, api.ErrSyntax},
		{func(x *api.Table) { x.Name = string(make([]byte, 33)) }, api.ErrSyntax}, {func(x *api.Table) { x.Name = "Mid/Land_1-234567890123456789012" }, api.OK},
		{func(x *api.Table) { x.Base.Abbr = "" }, api.ErrSyntax}, {func(x *api.Table) { x.Base.Abbr = "ABCDEFG" }, api.ErrSyntax}, {func(x *api.Table) { x.Base.Abbr = "ABCDEF" }, api.OK},
		{func(x *api.Table) { x.Changes[2].Triple.Abbr = "" }, api.ErrSyntax}, {func(x *api.Table) { last(x).Triple.Abbr = "é" }, api.ErrSyntax},
		{func(x *api.Table) { x.Base.Dst = true }, api.ErrBadArg},
		{func(x *api.Table) { x.Last = 10000 }, api.ErrBadArg}, {func(x *api.Table) { x.Last = -10000 }, api.ErrBadArg}, {func(x *api.Table) { x.Last = most }, api.ErrBadArg}, {func(x *api.Table) { x.Last = least }, api.ErrBadArg},
		{func(x *api.Table) { x.Last = 1999 }, api.ErrBadArg}, {func(x *api.Table) { x.Last = 2001 }, api.ErrBadArg},
		{func(x *api.Table) { x.Changes[1].Sec = start - 1 }, api.ErrBadArg}, {func(x *api.Table) { x.Changes[1].Sec = first }, api.ErrBadArg}, {func(x *api.Table) { x.Changes[1].Sec = first + 1 }, api.OK},
		{func(x *api.Table) { x.Changes[0].Sec = most }, api.ErrBadArg}, {func(x *api.Table) { x.Changes[2].Sec = start }, api.ErrBadArg}, {func(x *api.Table) { x.Changes[2].Sec = end + 1 }, api.ErrBadArg},
		{func(x *api.Table) { x.Changes[0].Triple = u }, api.ErrBadArg}, {func(x *api.Table) { x.Base = a }, api.ErrBadArg}, {func(x *api.Table) { x.Changes[1].Triple = a }, api.ErrBadArg}, {func(x *api.Table) { x.Changes[2].Triple = b }, api.ErrBadArg},
		{func(x *api.Table) { x.Changes = x.Changes[1:] }, api.OK}, {func(x *api.Table) { x.Changes = x.Changes[:2] }, api.ErrBadArg}, // what is at the end of Last is what the last of Tail has
		{func(x *api.Table) { x.Changes, x.First = x.Changes[:2], start+1000000 }, api.OK}, {func(x *api.Table) { x.Changes = x.Changes[:1] }, api.ErrBadArg}, {func(x *api.Table) { x.Changes = nil }, api.OK},
		{func(x *api.Table) { x.Tail[0].Triple = c }, api.ErrBadArg}, {func(x *api.Table) { x.Tail[1].Triple = a }, api.ErrBadArg}, {func(x *api.Table) { x.Tail[1].Triple = c }, api.ErrBadArg},
		{func(x *api.Table) { x.Tail[1].Triple, x.First = c, start+1000000 }, api.OK},
		{func(x *api.Table) { x.Tail[0].Sec = start - 1 }, api.ErrBadArg}, {func(x *api.Table) { x.Tail[0].Sec = start + 99 }, api.ErrBadArg}, {func(x *api.Table) { x.Tail[0].Sec = start + 100 }, api.OK}, {func(x *api.Table) { x.Tail[0].Sec, x.First = start, start }, api.OK},
		{func(x *api.Table) { x.Tail[0].Sec, x.First = start-1, start-1 }, api.ErrBadArg}, {func(x *api.Table) { x.Tail[0].Sec = start + 2000000 }, api.ErrBadArg}, {func(x *api.Table) { x.Tail[0].Sec = start + 2000001 }, api.ErrBadArg},
		{func(x *api.Table) { x.Tail[1].Sec = start + cycle - 1 }, api.OK}, {func(x *api.Table) { x.Tail[1].Sec = start + cycle }, api.ErrBadArg}, {func(x *api.Table) { x.Tail[1].Sec = most }, api.ErrBadArg}, {func(x *api.Table) { x.Tail[1].Sec = least }, api.ErrBadArg},
		{func(x *api.Table) { x.First = start - 1 }, api.ErrBadArg}, {func(x *api.Table) { x.First = start }, api.OK}, {func(x *api.Table) { x.First = start + 999999 }, api.OK}, {func(x *api.Table) { x.First = start + 1000000 }, api.OK}, {func(x *api.Table) { x.First = start + 1000001 }, api.ErrBadArg},
		{func(x *api.Table) { x.First = 0 }, api.ErrBadArg}, {func(x *api.Table) { x.First = most }, api.ErrBadArg}, {func(x *api.Table) { x.First = least }, api.ErrBadArg},
		{func(x *api.Table) { x.Tail = nil }, api.ErrBadArg}, {func(x *api.Table) { x.Tail = []api.Change{} }, api.ErrBadArg}, {func(x *api.Table) { x.Tail, x.First = nil, 0 }, api.OK}, {func(x *api.Table) { x.Tail, x.First = []api.Change{}, 0 }, api.OK}, {func(x *api.Table) { x.Tail, x.First = nil, 1 }, api.ErrBadArg},
		{func(x *api.Table) { x.Base.Offset = 64801 }, api.ErrRange}, {func(x *api.Table) { x.Base.Offset = 64800 }, api.OK}, {func(x *api.Table) { x.Base.Offset = least }, api.ErrRange}, {func(x *api.Table) { x.Base.Offset = -64801 }, api.ErrRange},
		{func(x *api.Table) { x.Changes[1].Triple.Offset = -64801 }, api.ErrRange}, {func(x *api.Table) { x.Changes[1].Triple.Offset = -64800 }, api.OK}, {func(x *api.Table) { last(x).Triple.Offset = most }, api.ErrRange}, {func(x *api.Table) { last(x).Triple.Offset = 64800 }, api.OK},
		{func(x *api.Table) { x.Changes[0].Sec = first - 1 }, api.ErrRange}, {func(x *api.Table) { x.Changes[0].Sec = least }, api.ErrRange}, {func(x *api.Table) { x.Changes[0].Sec, x.Changes[1].Sec = first-2, first-1 }, api.ErrRange},
	} {
		y := small()
		x.turn(&y)
		if e := holdTable(t, y, []int{start, start + cycle}); e != x.want {
			t.Errorf("%d: %d, want %d", i, e, x.want)
		}
	}
}

// 19.3: the end of the range: no tail behind MaxYear, none behind MaxSec.
func TestCheckAtTheEnds(t *testing.T) {
	start := behind(9998)
	for i, x := range []struct {
		x    api.Table
		want api.Errno
	}{
		{api.Table{Last: 9999}, api.OK}, {api.Table{Last: 9999, First: end + 1}, api.ErrBadArg}, {api.Table{Last: 9999, Changes: []api.Change{{Sec: end, Triple: a}}}, api.OK},
		{api.Table{Last: 9999, Changes: []api.Change{{Sec: end + 1, Triple: a}}}, api.ErrBadArg},
		{api.Table{Last: 9999, First: end, Tail: []api.Change{{Sec: end, Triple: a}}}, api.ErrBadArg}, {api.Table{Last: 9999, First: end + 1, Tail: []api.Change{{Sec: end + 1, Triple: a}}}, api.ErrBadArg},
		{api.Table{Last: 9998, First: end, Tail: []api.Change{{Sec: end, Triple: a}}}, api.OK}, {api.Table{Last: 9998, First: start, Tail: []api.Change{{Sec: end, Triple: a}}}, api.OK},
		{api.Table{Last: 9998, First: end + 1, Tail: []api.Change{{Sec: end + 1, Triple: a}}}, api.ErrBadArg}, {api.Table{Last: 9998, First: end, Tail: []api.Change{{Sec: end, Triple: a}, {Sec: end + 1, Triple: b}}}, api.ErrBadArg},
		{api.Table{Last: 9598, First: behind(9598), Tail: []api.Change{{Sec: behind(9598) + cycle - 1, Triple: a}}}, api.OK}, // its second cycle begins in range
		{api.Table{Last: 9599, First: behind(9599), Tail: []api.Change{{Sec: end, Triple: a}}}, api.OK}, {api.Table{Last: 9600, First: behind(9600), Tail: []api.Change{{Sec: end + 1, Triple: a}}}, api.ErrBadArg},
		{api.Table{Last: -9999}, api.OK}, {api.Table{Last: -9999, Changes: []api.Change{{Sec: first, Triple: a}}}, api.OK}, {api.Table{Last: -9999, Changes: []api.Change{{Sec: behind(-9999) - 1, Triple: a}}}, api.OK},
		{api.Table{Last: -9999, Changes: []api.Change{{Sec: behind(-9999), Triple: a}}}, api.ErrBadArg}, {api.Table{Last: 1969, First: 0, Tail: []api.Change{{Sec: 0, Triple: a}}}, api.OK}, {api.Table{Last: 1969, First: 0, Tail: []api.Change{{Sec: 5, Triple: a}}}, api.OK},
	} {
		x.x.Name, x.x.Base = "Z", u
		if e := holdTable(t, x.x, []int{start, behind(9598), behind(-9999)}); e != x.want {
			t.Errorf("%d: %d, want %d", i, e, x.want)
		}
	}
}

// 19.3: the end of each year that Last may be.
func TestCheckOfEachLast(t *testing.T) {
	for year := -9999; year < 9999; year++ {
		start := behind(year)
		x := api.Table{Name: "Z", Base: u, Last: year, First: start, Changes: []api.Change{{Sec: start - 1, Triple: a}}, Tail: []api.Change{{Sec: start, Triple: b}}}
		if e := table.Check(x); e != api.OK {
			t.Fatalf("%d: %d", year, e)
		}
		x.Tail[0].Sec, x.First = start-1, start-1
		x.Changes[0].Sec = start - 2
		if e := table.Check(x); e != api.ErrBadArg {
			t.Fatalf("%d: a tail at its end: %d", year, e)
		}
		x.Changes[0].Sec, x.First, x.Tail = start, 0, nil
		if e := table.Check(x); e != api.ErrBadArg {
			t.Fatalf("%d: a change behind its end: %d", year, e)
		}
	}
}

// 19.3: of two errors the least number, but for ErrCrowded, which is told of tables that may be otherwise alone.
func TestCheckOrder(t *testing.T) {
	crowd := func() api.Table {
		x := small()
		for i := range x.Changes {
			x.Changes[i].Sec = behind(2000) - 3 + i
		}
		x.Tail[0].Sec = behind(2000) + 129597
		return x
	}
	turns := []func(x *api.Table){
		api.ErrTooBig: func(x *api.Table) { x.Tail = append(x.Tail, make([]api.Change, 2000)...) },
		api.ErrSyntax: func(x *api.Table) { x.Name = "" },
		api.ErrBadArg: func(x *api.Table) { x.First = 0 },
		api.ErrRange:  func(x *api.Table) { x.Base.Offset = 64801 },
	}
	if e := table.Check(crowd()); e != api.ErrCrowded {
		t.Errorf("%d", e)
	}
	for _, made := range []func() api.Table{small, crowd} {
		for e, turn := range turns {
			for f, other := range turns[:e+1] {
				if turn == nil || other == nil {
					continue
				}
				x := made()
				other(&x)
				if f != e {
					turn(&x)
				}
				if got := table.Check(x); got != api.Errno(f) {
					t.Errorf("%d and %d: %d", e, f, got)
				}
				if got, e := table.At(x, end+1); got != (api.Triple{}) || e != api.Errno(f) {
					t.Errorf("%v %d", got, e)
				}
				if got, ok := table.Next(x, 0); got != 0 || ok {
					t.Errorf("%d %v", got, ok)
				}
			}
		}
	}
}

// 19.3: a crowd's ends, within a list, of both, over the ends of a cycle, by First, at the ends of the range.
func TestCheckCrowds(t *testing.T) {
	start, stop := behind(2000), behind(2000)+cycle-1
	triples := []api.Triple{a, b, c, u, a, b, c, u}
	list := func(of []api.Triple, secs ...int) []api.Change {
		var out []api.Change
		for i, sec := range secs {
			out = append(out, api.Change{Sec: sec, Triple: of[i]})
		}
		return out
	}
	part := start + (end-start)%cycle // in the last cycle there is no second behind it
	for i, x := range []struct {
		changes, tail []api.Change
		first         int
		want          api.Errno
	}{
		{list(triples, 0, 1, 2, 129600), nil, 0, api.ErrCrowded}, {list(triples, 0, 1, 2, 129601), nil, 0, api.OK},
		{list(triples, first, first+1, first+2, first+3), nil, 0, api.ErrCrowded}, {list(triples, first, first+1, first+2, first+129601), nil, 0, api.OK}, // one at MinSec, too
		{nil, list(triples, start, start+1, start+2, start+129600), start, api.ErrCrowded}, {nil, list(triples, start, start+1, start+2, start+129601), start, api.OK},
		{list(triples, start-2, start-1), list(triples[2:], start+129597, start+129598), start + 129597, api.ErrCrowded}, {list(triples, start-2, start-1), list(triples[2:], start+129598, start+129599), start + 129598, api.OK},
		{list(triples, start-1), list(triples[1:], start, start+1, start+129599), start, api.ErrCrowded}, {list(triples, start-1), list(triples[1:], start, start+1, start+129600), start, api.OK},
		{nil, list(triples, start, start+1, stop-129598, stop), start, api.ErrCrowded}, {nil, list(triples, start, start+1, stop-129599, stop), start, api.OK}, // two and two
		{nil, list(triples, start, start+129599, stop-1, stop), start, api.OK}, {nil, list(triples, start, start+129598, stop-1, stop), start, api.ErrCrowded},
		{nil, list([]api.Triple{a, b, a, b}, start, start+1, stop-1, stop), start, api.ErrCrowded},                                                                               // the first is one in later cycles
		{nil, list([]api.Triple{a, b, c, a}, start, start+1, stop-1, stop), start, api.OK}, {nil, list([]api.Triple{a, b, c, a}, start, start+1, stop-2, stop-1), start, api.OK}, // and here it is none
		{nil, list([]api.Triple{a, b, c}, start+5, start+6, start+7), start + 4, api.ErrCrowded}, {nil, list([]api.Triple{a, b, c}, start+5, start+6, start+7), start + 5, api.OK},
		{nil, list([]api.Triple{a, b, c}, start+129600, start+129601, start+129602), start + 1, api.OK}, {nil, list([]api.Triple{a, b, c}, start+129600, start+129601, start+129602), start + 2, api.ErrCrowded},
		{nil, list([]api.Triple{a, b, c}, start+500000, stop-129598, stop), start + 1, api.OK}, {nil, list([]api.Triple{a, b, c}, start+1, stop-129598, stop), start, api.ErrCrowded}, {nil, list([]api.Triple{a, b, c}, start+1, stop-129599, stop), start, api.OK},
		{nil, list([]api.Triple{a, b, c, u}, part-3, part-2, part-1, part), part - 3, api.ErrCrowded}, {nil, list([]api.Triple{a, b, c}, part-2, part-1, part), part - 3, api.ErrCrowded},
	} {
		y := api.Table{Name: "Z", Base: u, Last: 2000, First: x.first, Changes: x.changes, Tail: x.tail}
		if e := holdTable(t, y, []int{start, start + cycle, start + 2*cycle}); e != x.want {
			t.Errorf("%d: %d, want %d", i, e, x.want)
		}
	}
	start, stop = behind(9598), behind(9598)+cycle-1 // of the second cycle all but a year is out of range
	for i, x := range []struct {
		tail  []api.Change
		first int
		want  api.Errno
	}{
		{list([]api.Triple{a, b, c}, start+5, start+6, start+7), start + 4, api.ErrCrowded},
		{list([]api.Triple{a, b, c}, stop-2, stop-1, stop), stop - 3, api.OK}, // the next one at First is out of range
		{list([]api.Triple{a, b, c}, start+365*86400-2, start+365*86400-1, start+365*86400), start + 365*86400 - 3, api.OK},
		{list([]api.Triple{a, b, c}, start+365*86400-3, start+365*86400-2, start+365*86400-1), start + 365*86400 - 4, api.ErrCrowded},
	} {
		y := api.Table{Name: "Z", Base: u, Last: 9598, First: x.first, Tail: x.tail}
		if e := holdTable(t, y, []int{start, start + cycle}); e != x.want {
			t.Errorf("%d: %d, want %d", i, e, x.want)
		}
	}
}

// anyTable has seconds near the ends of Last, of a cycle, of the range, few Triples, and a fault in some.
func anyTable(r *rand.Rand) (api.Table, []int) {
	x := api.Table{Name: "Z", Base: u, Last: []int{-9999, -9998, 1969, 9598, 9599, 9600, 9998, 9999}[r.Intn(8)]}
	start := behind(x.Last)
	stop := min(start+cycle-1, end)
	near := func(n, k int) int { return n + r.Intn(2*k+1) - k }
	draw := func(ends []int, low, high, n int) []int {
		var out []int
		for range n {
			sec := near(ends[r.Intn(len(ends))], []int{2, 40000, 200000}[r.Intn(3)])
			out = append(out, min(max(sec, low), high))
		}
		slices.Sort(out)
		return slices.Compact(out)
	}
	has := x.Base
	lay := func(secs []int) (l []api.Change) {
		for _, sec := range secs {
			if next := []api.Triple{u, a, b, c}[r.Intn(4)]; next != has {
				l, has = append(l, api.Change{Sec: sec, Triple: next}), next
			}
		}
		return l
	}
	x.Changes = lay(draw([]int{first, start - 1}, first, start-1, r.Intn(4)))
	atEnd := has
	if x.Last < 9999 {
		x.Tail = lay(draw([]int{start, stop, start + (end-start)%cycle}, start, stop, r.Intn(6)))
	}
	if len(x.Tail) > 0 {
		x.First = x.Tail[0].Sec
		if has != atEnd && r.Intn(2) == 0 {
			x.First = min(x.First, near(start+r.Intn(100000), 2))
		}
	}
	if r.Intn(4) == 0 {
		spoil(r, &x)
	}
	secs := []int{start, stop, x.First}
	for _, l := range slices.Concat(x.Changes, x.Tail) {
		secs = append(secs, l.Sec)
	}
	for _, sec := range slices.Clone(secs) {
		secs = append(secs, sec+cycle, sec+2*cycle, sec+49*cycle)
	}
	return x, secs
}

func spoil(r *rand.Rand, x *api.Table) {
	all := append([]*api.Change{{}}, nil...)
	for i := range x.Changes {
		all = append(all, &x.Changes[i])
	}
	for i := range x.Tail {
		all = append(all, &x.Tail[i])
	}
	l := all[r.Intn(len(all))]
	switch r.Intn(6) {
	case 0:
		x.First += r.Intn(5) - 2
	case 1:
		x.Last += r.Intn(3) - 1
	case 2:
		l.Sec += r.Intn(7) - 3
	case 3:
		l.Triple = []api.Triple{u, a, b, c, {}, {Offset: most, Abbr: "D"}}[r.Intn(6)]
	case 4:
		x.Base = []api.Triple{a, b, c, {}, {Offset: -64801, Abbr: "D"}}[r.Intn(5)]
	case 5:
		l.Sec = []int{least, first - 1, end + 1, most}[r.Intn(4)]
	}
}

// 19.2, 19.3: tables of all kinds.
func TestAnyTables(t *testing.T) {
	r := rand.New(rand.NewSource(192))
	count := map[api.Errno]int{}
	for range 3000 {
		x, secs := anyTable(r)
		count[holdTable(t, x, secs)]++
	}
	for _, e := range []api.Errno{api.OK, api.ErrSyntax, api.ErrCrowded, api.ErrBadArg, api.ErrRange} {
		if count[e] < 30 {
			t.Errorf("the tables are too much alike: %v", count)
		}
	}
}

// 19.1, R4: what is handed in stays as it was, behind the lists' ends too; what is handed out is new.
func TestNothingIsShared(t *testing.T) {
	lines := append(many(1990, 1<<20), once(first, 0)...)
	z := api.Source{Name: "Z", Base: u, Lines: lines[:3]}
	kept := slices.Clone(lines)
	x, e := table.Compile(z)
	due := copied(x)
	if e != api.OK || len(x.Changes) == 0 || len(x.Tail) == 0 {
		t.Fatalf("%d", e)
	}
	y, _ := table.Compile(z)
	for _, l := range [][]api.Change{x.Changes, x.Tail} {
		all := l[:cap(l)]
		for i := range all {
			all[i] = api.Change{Sec: most}
		}
	}
	if again, e := table.Compile(z); e != api.OK || !same(again, due) || !same(y, due) || !reflect.DeepEqual(lines, kept) {
		t.Errorf("%d %v", e, z)
	}
}

// 19.3, R4, R5: the table handed in stays as it was, and the same again is answered.
func TestAskedTablesStay(t *testing.T) {
	all := append(small().Changes, small().Tail...)
	kept := slices.Clone(all)
	x := small()
	x.Changes, x.Tail = all[:3], all[3:4]
	due := copied(x)
	for range 2 {
		got, e := table.At(x, end)
		next, ok := table.Next(x, behind(2000))
		if table.Check(x) != api.OK || got != a || e != api.OK || next != behind(2000)+1000000 || !ok {
			t.Errorf("%v %d %d %v", got, e, next, ok)
		}
	}
	if !slices.Equal(all, kept) || !same(x, due) {
		t.Errorf("%v", all)
	}
}
