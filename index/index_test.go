package index_test

// Each test names what it holds of promises 20.1 and 20.2 (shared/doc/20-index.md). The stretches that an index should
// tell are those between a table's changes, which are found by the words of chapter 19 at all seconds that may be one,
// in all cycles up to the range's end, or are the zone's own, year by year (chapter 17).

import (
	"math"
	"math/rand"
	"reflect"
	"slices"
	"sync"
	"testing"
	"time"

	"analemma/api"
	"analemma/expand"
	"analemma/index"
	"analemma/rules"
	"analemma/table"
)

const (
	most  = math.MaxInt
	least = math.MinInt
	first = -377705116800 // the first second of -9999
	end   = 253402300799  // the last one of 9999
	cycle = 12622780800
	land  = "zone Mid/Land\nbase +01:00 CET\n" +
		"rule 1996 on mar last-sun 01:00 +00:00 +02:00 dst CEST\nrule 1996 on oct last-sun 01:00 +00:00 +01:00 std CET\n"
	head = "zone Z\nbase +00:00 U\n"
)

var (
	u = api.Triple{Abbr: "U"}
	a = api.Triple{Offset: 3600, Abbr: "A"}
	b = api.Triple{Offset: 7200, Dst: true, Abbr: "B"}
	c = api.Triple{Offset: -3600, Abbr: "C"}
)

func second(y, m, d, h int) int {
	return int(time.Date(y, time.Month(m), d, h, 0, 0, 0, time.UTC).Unix())
}

// behind is the first second behind a year.
func behind(year int) int {
	return second(year+1, 1, 1, 0)
}

func load(t *testing.T, s string) api.Table {
	t.Helper()
	x, e := table.Load(s)
	if e != api.OK {
		t.Fatalf("%d: %s", e, s)
	}
	return x
}

func made(t *testing.T, x api.Table) *index.Index {
	t.Helper()
	i, e := index.New(x)
	if e != api.OK || i == nil || i.Asked() != 0 {
		t.Fatalf("New: %d: %+v", e, x)
	}
	return i
}

func same(x, y api.Table) bool {
	return x.Name == y.Name && x.Base == y.Base && x.Last == y.Last && x.First == y.First &&
		slices.Equal(x.Changes, y.Changes) && slices.Equal(x.Tail, y.Tail)
}

func copied(x api.Table) api.Table {
	x.Changes, x.Tail = slices.Clone(x.Changes), slices.Clone(x.Tail)
	return x
}

// dueAt goes by the words of 19.2, one change after the other.
func dueAt(x api.Table, sec int) api.Triple {
	has := x.Base
	for _, l := range x.Changes {
		if l.Sec <= sec {
			has = l.Triple
		}
	}
	start := behind(x.Last)
	if sec < start || len(x.Tail) == 0 {
		return has
	}
	whole := (sec - start) / cycle
	sec -= whole * cycle
	if whole > 0 && sec < x.First {
		has = x.Tail[len(x.Tail)-1].Triple
	}
	for _, l := range x.Tail {
		if l.Sec <= sec {
			has = l.Triple
		}
	}
	return has
}

// due are the changes in range, behind what x has at MinSec.
func due(x api.Table) []api.Change {
	var may []int
	for _, l := range x.Changes {
		may = append(may, l.Sec)
	}
	for later := 0; len(x.Tail) > 0 && behind(x.Last)+later <= end; later += cycle {
		may = append(may, x.First+later)
		for _, l := range x.Tail {
			may = append(may, l.Sec+later)
		}
	}
	slices.Sort(may)
	out := []api.Change{{Sec: first, Triple: dueAt(x, first)}}
	for _, sec := range slices.Compact(may) {
		if sec > first && sec <= end && dueAt(x, sec) != dueAt(x, sec-1) {
			out = append(out, api.Change{Sec: sec, Triple: dueAt(x, sec)})
		}
	}
	return out
}

// holdAt asks an index for all of it at a second that lies within a stretch.
func holdAt(t *testing.T, i *index.Index, sec, from, to int, triple api.Triple) {
	t.Helper()
	asked := i.Asked()
	if got, e := i.At(sec); got != triple || e != api.OK || i.Asked() != asked+1 {
		t.Fatalf("At(%d): %v %d, asked %d, want %v: %+v", sec, got, e, i.Asked()-asked, triple, i.Table())
	}
	if low, high, e := i.Span(sec); low != from || high != to || e != api.OK || i.Asked() != asked+2 {
		t.Fatalf("Span(%d): %d %d %d, asked %d, want %d %d: %+v", sec, low, high, e, i.Asked()-asked, from, to, i.Table())
	}
}

// hold asks at both ends of each stretch, within it, and past the range.
func hold(t *testing.T, i *index.Index, due []api.Change) {
	t.Helper()
	for k, l := range due {
		to := end
		if k+1 < len(due) {
			to = due[k+1].Sec - 1
		}
		for _, sec := range []int{l.Sec, to, l.Sec + (to-l.Sec)/2, l.Sec + (to-l.Sec)/3} {
			holdAt(t, i, sec, l.Sec, to, l.Triple)
		}
	}
	holdOutside(t, i)
}

func holdOutside(t *testing.T, i *index.Index) {
	t.Helper()
	asked := i.Asked()
	for _, sec := range []int{first - 1, end + 1, least, most, first - cycle, end + cycle} {
		got, e := i.At(sec)
		from, to, f := i.Span(sec)
		if got != (api.Triple{}) || e != api.ErrRange || from != 0 || to != 0 || f != api.ErrRange || i.Asked() != asked {
			t.Fatalf("%d: %v %d, %d %d %d, asked %d", sec, got, e, from, to, f, i.Asked()-asked)
		}
	}
}

// 20.1, 20.2: the document's zone, the tail's seconds of the year 9998, too.
func TestOfLand(t *testing.T) {
	x := load(t, land)
	cet, cest := api.Triple{Offset: 3600, Abbr: "CET"}, api.Triple{Offset: 7200, Dst: true, Abbr: "CEST"}
	i := made(t, x)
	from, to, e := i.Span(second(2024, 7, 1, 0))
	if from != second(2024, 3, 31, 1) || to != second(2024, 10, 27, 1)-1 || e != api.OK || i.Asked() != 1 {
		t.Errorf("%d %d %d, asked %d", from, to, e, i.Asked())
	}
	for k, l := range []struct {
		sec, from, to int
		triple        api.Triple
	}{
		{0, first, second(1996, 3, 31, 1) - 1, cet}, {second(1996, 3, 31, 1), second(1996, 3, 31, 1), second(1996, 10, 27, 1) - 1, cest},
		{second(1997, 12, 31, 0), second(1997, 10, 26, 1), second(1998, 3, 29, 1) - 1, cet}, {second(1998, 1, 1, 0), second(1997, 10, 26, 1), second(1998, 3, 29, 1) - 1, cet},
		{second(2397, 12, 31, 0), second(2397, 10, 26, 1), second(2398, 3, 29, 1) - 1, cet}, {second(2398, 1, 1, 0), second(2397, 10, 26, 1), second(2398, 3, 29, 1) - 1, cet},
		{second(2798, 1, 1, 0), second(2797, 10, 26, 1), second(2798, 3, 29, 1) - 1, cet}, {second(9998, 7, 1, 0), second(9998, 3, 29, 1), second(9998, 10, 25, 1) - 1, cest},
		{end, second(9999, 10, 31, 1), end, cet},
	} {
		holdAt(t, i, l.sec, l.from, l.to, l.triple)
		if i.Asked() != 3+2*k {
			t.Errorf("asked %d", i.Asked())
		}
	}
	if !same(i.Table(), x) {
		t.Errorf("%+v", i.Table())
	}
}

// list has these Triples one after the other.
func list(of []api.Triple, secs ...int) []api.Change {
	var out []api.Change
	for i, sec := range secs {
		out = append(out, api.Change{Sec: sec, Triple: of[i]})
	}
	return out
}

// 20.1, 20.2: where a table has no change, one at an end of the range, of Last or of a cycle; where a later cycle has
// fewer changes than the first one, none, or one more at First. How many stretches there are is told by hand.
func TestTablesByHand(t *testing.T) {
	start := behind(2000)
	stop, cycles := start+cycle-1, (end-start)/cycle
	for i, x := range []struct {
		last, first   int
		changes, tail []api.Change
		stretches     int
	}{
		{-9999, 0, nil, nil, 1}, {0, 0, nil, nil, 1}, {9999, 0, nil, nil, 1},
		{-9999, 0, list([]api.Triple{a}, first), nil, 1}, {2000, 0, list([]api.Triple{a, b}, first, first+1), nil, 2}, {2000, 0, list([]api.Triple{a}, first+1), nil, 2},
		{9999, 0, list([]api.Triple{a}, end), nil, 2}, {9999, 0, list([]api.Triple{a, b}, first, end), nil, 2}, {9998, end, nil, list([]api.Triple{a}, end), 2},
		{2000, 0, list([]api.Triple{a, b, u}, 0, 1, start-1), nil, 4},
		{2000, start, nil, list([]api.Triple{a}, start), 2}, {2000, stop, nil, list([]api.Triple{a}, stop), 2}, {2000, stop, list([]api.Triple{a}, start-1), list([]api.Triple{b}, stop), 3}, // once for all
		{2000, start, nil, list([]api.Triple{a}, start+1), 2 + 2*cycles}, {2000, stop - 1, nil, list([]api.Triple{a}, stop), 2 + 2*cycles - 2}, // and anew, from First on
		{2000, start, nil, list([]api.Triple{a, u}, start, stop), 1 + 2*(cycles+1) - 1}, {2000, start, list([]api.Triple{c}, start-1), list([]api.Triple{a, u}, start, start+1), 2 + 2*(cycles+1)},
		{2000, start, nil, list([]api.Triple{a, b, a}, start, start+1, stop), 1 + 3 + 2*cycles - 1}, {2000, start + 1, nil, list([]api.Triple{a, b, a, u}, start+1, start+2, start+500000, stop), 1 + 4*(cycles+1) - 1},
		{2000, start, nil, list([]api.Triple{a, b, a}, start+200000, start+200001, stop), 1 + 3 + 4*cycles - 1}, {2000, start, list([]api.Triple{b}, 0), list([]api.Triple{a, b, c}, start+1, start+200000, start+400000), 2 + 3 + 4*cycles},
		{-9999, behind(-9999), nil, list([]api.Triple{a, b}, behind(-9999), behind(-9999)+cycle-1), 1 + 2*50 - 1}, {9598, behind(9598), nil, list([]api.Triple{a, b}, behind(9598), behind(9998)-1), 1 + 2 + 1},
		{9599, behind(9599), nil, list([]api.Triple{a}, end), 2}, {9599, behind(9599), nil, list([]api.Triple{a, b}, behind(9599), end), 3},
	} {
		y := api.Table{Name: "Z", Base: u, Last: x.last, First: x.first, Changes: x.changes, Tail: x.tail}
		all := due(y)
		if len(all) != x.stretches {
			t.Errorf("%d: %d stretches, want %d: %v", i, len(all), x.stretches, y)
		}
		hold(t, made(t, y), all)
	}
}

// anyTable has seconds near the ends of Last, of a cycle, of the range, and few Triples.
func anyTable(r *rand.Rand) api.Table {
	x := api.Table{Name: "Z", Base: u, Last: []int{-9999, -9998, 1969, 9598, 9599, 9600, 9998, 9999}[r.Intn(8)]}
	start, has := behind(x.Last), x.Base
	stop := min(start+cycle-1, end)
	lay := func(ends []int, low, high, n int) (l []api.Change) {
		var secs []int
		for range n {
			spread := []int{2, 40000, 200000}[r.Intn(3)]
			sec := ends[r.Intn(len(ends))] + r.Intn(2*spread+1) - spread
			secs = append(secs, min(max(sec, low), high))
		}
		slices.Sort(secs)
		for _, sec := range slices.Compact(secs) {
			if next := []api.Triple{u, a, b, c}[r.Intn(4)]; next != has {
				l, has = append(l, api.Change{Sec: sec, Triple: next}), next
			}
		}
		return l
	}
	x.Changes = lay([]int{first, start - 1}, first, start-1, r.Intn(4))
	atEnd := has
	if x.Last < 9999 {
		x.Tail = lay([]int{start, stop, start + (end-start)%cycle}, start, stop, r.Intn(6))
	}
	if len(x.Tail) > 0 {
		x.First = x.Tail[0].Sec
		if has != atEnd && r.Intn(2) == 0 {
			x.First = min(x.First, start+r.Intn(100000))
		}
	}
	return x
}

// 20.1, 20.2: tables of all kinds, of which those with a crowd have no index.
func TestAnyTables(t *testing.T) {
	r := rand.New(rand.NewSource(20))
	count := map[api.Errno]int{}
	for range 3000 {
		x := anyTable(r)
		e := table.Check(x)
		count[e]++
		if e == api.OK {
			hold(t, made(t, x), due(x))
		} else if i, f := index.New(x); i != nil || f != e {
			t.Fatalf("%v %d, want %d: %+v", i, f, e, x)
		}
	}
	if count[api.OK] < 1000 || count[api.ErrCrowded] < 30 || len(count) != 2 {
		t.Errorf("the tables are too much alike: %v", count)
	}
}

// 20.1, T2: chapter 19's At, asked at the same seconds.
func TestAtIsTheTables(t *testing.T) {
	r := rand.New(rand.NewSource(201))
	for range 200 {
		x := anyTable(r)
		i, e := index.New(x)
		for range 50 {
			sec := first - cycle + r.Intn(end-first+2*cycle)
			if e != api.OK {
				break
			}
			want, f := table.At(x, sec)
			if got, e := i.At(sec); got != want || e != f {
				t.Fatalf("At(%d): %v %d, want %v %d: %+v", sec, got, e, want, f, x)
			}
		}
	}
}

// 20.1, 20.2, T2: of rule texts, the zone's own changes from year to year.
func TestZones(t *testing.T) {
	for _, text := range []string{
		land, head, head + "at 2001-06-01T00:00:00 +01:00 std A\n", head + "at -9999-01-01T00:00:00 +01:00 std A\n", head + "at 9999-12-31T23:59:59 +01:00 std A\n",
		head + "rule 2000 2009 mar 1 00:00 +00:00 +01:00 std A\nrule 2000 2009 jun 1 00:00 +00:00 +02:00 dst B\n",
		head + "rule -9999 on mar 1 00:00 +00:00 +01:00 std A\nrule -9999 on jun sun>=25 00:00 +00:00 +02:00 dst B\n",
		head + "rule 9997 on jan 1 00:00 +18:00 +01:00 std A\nrule 9997 on jun 1 00:00 +00:00 +02:00 dst B\n",
		head + "rule 2000 on feb 29 00:00 +00:00 +01:00 std A\nrule 2000 on feb 29 12:00 +00:00 +02:00 dst B\nat 2001-06-01T00:00:00 +01:00 std A\n", // First is ahead of Tail
		head + "rule 2000 on feb 29 00:00 +00:00 +01:00 std A\nat 2001-06-01T00:00:00 -01:00 std C\n",
		head + "rule 2000 on feb 29 00:00 +00:00 +01:00 std A\nrule 2000 on feb 29 12:00 +00:00 +02:00 dst B\nrule 2000 on mar 15 00:00 +00:00 +01:00 std A\nat 2001-06-01T00:00:00 -01:00 std C\n",
	} {
		z, _, e := rules.Parse(text)
		if e != api.OK {
			t.Fatalf("%d: %s", e, text)
		}
		changes, _ := expand.Changes(z, -9999, 9999)
		due := append([]api.Change{{Sec: first, Triple: z.Base}}, changes...)
		if len(changes) > 0 && changes[0].Sec == first {
			due = changes
		}
		x := load(t, text)
		hold(t, made(t, x), due)
		if i := made(t, x); !same(i.Table(), x) {
			t.Errorf("%+v, want %+v", i.Table(), x)
		}
	}
}

// 20.1: as many changes as a table may have, and one more.
func TestMostChanges(t *testing.T) {
	x := api.Table{Name: "Z", Base: u, Last: 1999, First: behind(1999)}
	for k := range api.MaxChange {
		triple := []api.Triple{a, b}[k%2]
		x.Changes = append(x.Changes, api.Change{Sec: behind(1999) + (k-api.MaxChange)*86400, Triple: triple})
		x.Tail = append(x.Tail, api.Change{Sec: behind(1999) + k*86400, Triple: triple})
	}
	i := made(t, x)
	for k, l := range x.Tail {
		holdAt(t, i, x.Changes[k].Sec, x.Changes[k].Sec, x.Changes[k].Sec+86399, l.Triple)
		to := l.Sec + 86399
		if k == api.MaxChange-1 {
			to = behind(2399) - 1
		}
		for whole := range 20 {
			holdAt(t, i, to+whole*cycle, l.Sec+whole*cycle, min(to+whole*cycle, end), l.Triple)
		}
	}
	if !same(i.Table(), x) {
		t.Error("Table")
	}
	for _, y := range []api.Table{
		{Name: "Z", Base: u, Last: 1999, Changes: append(slices.Clone(x.Changes), api.Change{Sec: behind(1999) - 1, Triple: a})},
		{Name: "Z", Base: u, Last: 1999, First: x.First, Tail: append(slices.Clone(x.Tail), api.Change{Sec: behind(2399) - 1, Triple: a})},
	} {
		if i, e := index.New(y); i != nil || e != api.ErrTooBig {
			t.Errorf("%v %d", i, e)
		}
	}
}

// 20.1: chapter 19's Check's errors, each with no index beside it.
func TestNewErrors(t *testing.T) {
	start := behind(2000)
	due := api.Table{Name: "Z", Base: u, Last: 2000, First: start, Changes: list([]api.Triple{a, b}, 0, 1000000), Tail: list([]api.Triple{u, c}, start+1, start+2)}
	for i, x := range []struct {
		turn func(x *api.Table)
		want api.Errno
	}{
		{func(x *api.Table) {}, api.OK}, {func(x *api.Table) { *x = api.Table{} }, api.ErrSyntax},
		{func(x *api.Table) { x.Changes = make([]api.Change, 2001) }, api.ErrTooBig}, {func(x *api.Table) { x.Tail, x.Name = make([]api.Change, 2001), "" }, api.ErrTooBig},
		{func(x *api.Table) { x.Name = "" }, api.ErrSyntax}, {func(x *api.Table) { x.Changes[0].Triple.Abbr = "" }, api.ErrSyntax}, {func(x *api.Table) { x.Tail[1].Triple.Abbr = "A1" }, api.ErrSyntax},
		{func(x *api.Table) { x.Base.Dst = true }, api.ErrBadArg}, {func(x *api.Table) { x.Last = 10000 }, api.ErrBadArg}, {func(x *api.Table) { x.Last = least }, api.ErrBadArg},
		{func(x *api.Table) { x.First = 0 }, api.ErrBadArg}, {func(x *api.Table) { x.First = start + 2 }, api.ErrBadArg}, {func(x *api.Table) { x.Tail = nil }, api.ErrBadArg},
		{func(x *api.Table) { x.Changes[1].Sec = -1 }, api.ErrBadArg}, {func(x *api.Table) { x.Changes[1].Triple = a }, api.ErrBadArg}, {func(x *api.Table) { x.Tail[1].Sec = most }, api.ErrBadArg},
		{func(x *api.Table) { x.Base.Offset = 64801 }, api.ErrRange}, {func(x *api.Table) { x.Changes[0].Sec = first - 1 }, api.ErrRange}, {func(x *api.Table) { x.Tail[0].Triple.Offset = least }, api.ErrRange},
		{func(x *api.Table) { x.Changes[0].Sec, x.Changes[1].Sec = start-2, start-1 }, api.ErrCrowded}, {func(x *api.Table) {
			x.Changes[0].Sec, x.Changes[1].Sec, x.Tail[1].Triple.Offset = start-2, start-1, most
		}, api.ErrRange},
	} {
		y := copied(due)
		x.turn(&y)
		got, e := index.New(y)
		if e != x.want || e != table.Check(y) || (got == nil) != (e != api.OK) {
			t.Errorf("%d: %v %d, want %d", i, got, e, x.want)
		}
	}
}

// 20.1, R1: a nil index, and one that no call made.
func TestNoIndex(t *testing.T) {
	for _, x := range []*index.Index{nil, new(index.Index)} {
		for _, sec := range []int{0, first, end, first - 1, end + 1, least, most} {
			got, e := x.At(sec)
			from, to, f := x.Span(sec)
			if got != (api.Triple{}) || e != api.ErrBadArg || from != 0 || to != 0 || f != api.ErrBadArg || x.Asked() != 0 || !same(x.Table(), api.Table{}) {
				t.Errorf("%v %d, %d %d %d, %d, %+v", got, e, from, to, f, x.Asked(), x.Table())
			}
		}
	}
}

// 20.1: what is no At and no Span is not counted, nor what another index is asked.
func TestAsked(t *testing.T) {
	x := load(t, land)
	i, other := made(t, x), made(t, x)
	for n := range 100 {
		if n%3 == 0 {
			i.At(n)
		} else {
			i.Span(-n)
		}
		i.At(end + 1 + n)
		i.Span(first - 1 - n)
		i.Table()
		if i.Asked() != n+1 || i.Asked() != n+1 || other.Asked() != 0 {
			t.Fatalf("%d, want %d; the other %d", i.Asked(), n+1, other.Asked())
		}
	}
}

// 20.1: a new index that many goroutines ask at once answers each of them, and counts them all.
func TestAskedAtOnce(t *testing.T) {
	x := load(t, land)
	for range 20 {
		i := made(t, x)
		var all sync.WaitGroup
		for n := range 50 {
			all.Go(func() {
				for range 20 {
					sec := second(2000+160*n, 7, 1, 0)
					got, e := i.At(sec)
					from, to, f := i.Span(sec)
					if got.Abbr != "CEST" || e != api.OK || from > sec || to < sec || to-from > 300*86400 || f != api.OK || i.Asked() < 2 || i.Table().Last != 1997 {
						t.Errorf("%d: %v %d, %d %d %d", sec, got, e, from, to, f)
					}
				}
			})
		}
		all.Wait()
		if i.Asked() != 50*20*2 {
			t.Fatalf("asked %d", i.Asked())
		}
	}
}

// 20.1, R4, R5: neither what New was handed in nor what Table handed out is the index's own, ahead of the first
// question or behind it; what is handed in stays as it was, behind the lists' ends, too.
func TestNothingIsShared(t *testing.T) {
	start := behind(2000)
	spoil := func(x api.Table) {
		for _, l := range [][]api.Change{x.Changes, x.Tail} {
			for i := range l[:cap(l)] {
				l[:cap(l)][i] = api.Change{Sec: most, Triple: b}
			}
		}
	}
	all := list([]api.Triple{a, b, u, c, a, b}, 0, 1000000, start+1, start+1000000, 3, 4)
	kept := slices.Clone(all)
	x := api.Table{Name: "Z", Base: u, Last: 2000, First: start + 1, Changes: all[:2], Tail: all[2:4]}
	want, stretches := copied(x), due(x)
	early, late := made(t, x), made(t, x)
	hold(t, late, stretches)
	if !reflect.DeepEqual(all, kept) {
		t.Errorf("%v", all)
	}
	spoil(x)
	for _, i := range []*index.Index{early, late} {
		for range 2 {
			y := i.Table()
			if !same(y, want) {
				t.Errorf("%+v, want %+v", y, want)
			}
			spoil(y)
			hold(t, i, stretches)
		}
	}
}
