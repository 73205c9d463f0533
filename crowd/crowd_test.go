package crowd_test

// Each test names what it holds of promises 18.1 and 18.2 (shared/doc/18-crowd.md). How many lie within a
// window is told by math/big, a window laid at each item and all the others held against its ends; a zone's
// crowds by each of its changes, of which those ahead of it within the window are counted.

import (
	"math"
	"math/big"
	"math/rand"
	"reflect"
	"slices"
	"testing"
	"time"

	"analemma/api"
	"analemma/crowd"
	"analemma/expand"
	"analemma/rules"
)

const (
	most  = math.MaxInt
	least = math.MinInt
	first = -377705116800 // the first second of -9999
	end   = 253402300799  // the last one of 9999
	head  = "zone Z\nbase +00:00 U\n"
)

func dueMost(l []int, window int) int {
	best := 0
	for _, low := range l {
		high, n := new(big.Int).Add(big.NewInt(int64(low)), big.NewInt(int64(window))), 0
		for _, x := range l {
			if x >= low && big.NewInt(int64(x)).Cmp(high) <= 0 {
				n++
			}
		}
		best = max(best, n)
	}
	return best
}

func holdMost(t *testing.T, l []int, window int) {
	t.Helper()
	if n, due := crowd.Most(l, window), dueMost(l, window); n != due {
		t.Errorf("Most(%v, %d): %d, want %d", l, window, n, due)
	}
}

// 18.1: values by hand, the document's own among them.
func TestMostByHand(t *testing.T) {
	for _, x := range []struct {
		l            []int
		window, want int
	}{
		{[]int{1, 5, 9}, 4, 2}, {[]int{1, 1}, 0, 2}, // the document's
		{[]int{1, 5, 9}, 3, 1}, {[]int{1, 5, 9}, 7, 2}, {[]int{1, 5, 9}, 8, 3}, {[]int{1, 5, 9}, most, 3},
		{nil, 0, 0}, {[]int{}, 5, 0}, {nil, most, 0}, {[]int{}, least, 0}, {[]int{7}, 0, 1}, {[]int{7}, most, 1}, {[]int{7}, -1, 0},
		{[]int{9, 1, 5}, 4, 2}, {[]int{9, 5, 1}, 8, 3}, {[]int{5, 1, 9, 1, 5}, 4, 4}, {[]int{3, 3, 3, 3}, 0, 4}, {[]int{3, 4, 3, 4, 3}, 0, 3},
		{[]int{0, 1, 2, 3, 10}, 3, 4}, {[]int{10, 20, 21, 22, 40}, 2, 3}, {[]int{1, 10, 20, 21, 22}, 2, 3}, {[]int{1, 2, 3, 10, 11, 20, 21, 22, 23}, 3, 4},
		{[]int{-5, 0, 5}, 5, 2}, {[]int{-5, 0, 5}, 10, 3}, {[]int{-1, 1}, 1, 1}, {[]int{-1, 1}, 2, 2},
		{[]int{1, 1, 1}, -1, 0}, {[]int{1, 5, 9}, least, 0}, {[]int{1, 5, 9}, -4, 0},
		{[]int{least, most}, most, 1}, {[]int{most, least}, 0, 1}, {[]int{least, most}, -1, 0}, {[]int{least, -1}, most, 2}, {[]int{least, 0}, most, 1},
		{[]int{0, most}, most, 2}, {[]int{-1, most}, most, 1}, {[]int{-1, most}, 0, 1}, {[]int{least, most, most}, 0, 2}, {[]int{least, least, -1, 0, most}, most, 3},
		{[]int{most - 1, most}, 1, 2}, {[]int{least, least + 1}, 1, 2}, {[]int{least, least + 1, most}, 0, 1}, {[]int{1 << 62, -1 << 62}, most, 1},
	} {
		if n := crowd.Most(x.l, x.window); n != x.want {
			t.Errorf("Most(%v, %d): %d, want %d", x.l, x.window, n, x.want)
		}
		holdMost(t, x.l, x.window)
	}
}

// 18.1, R6: all lists of up to three edges, all windows of them.
func TestMostOfEdges(t *testing.T) {
	edges := []int{least, least + 1, -1 << 62, -1, 0, 1, 129600, 1 << 62, most - 1, most}
	for _, window := range append(edges, -129600, 1<<62-1, 1<<62+1, 2, -2) {
		holdMost(t, nil, window)
		for _, a := range edges {
			holdMost(t, []int{a}, window)
			for _, b := range edges {
				holdMost(t, []int{a, b}, window)
				for _, c := range edges {
					holdMost(t, []int{a, b, c}, window)
				}
			}
		}
	}
}

// 18.1: lists of any numbers, near ones and far ones, in any order.
func TestMostOfAnyNumbers(t *testing.T) {
	r := rand.New(rand.NewSource(18))
	for range 4000 {
		l, reach := make([]int, r.Intn(30)), []int{3, 20, 200, most}[r.Intn(4)]
		for i := range l {
			l[i] = r.Intn(reach) - reach/2
		}
		for _, window := range []int{-1, 0, 1, r.Intn(10), r.Intn(reach), most} {
			holdMost(t, l, window)
		}
	}
}

// 18.1: as many numbers as one asks for: windows neither take long nor lose any.
func TestMostOfMany(t *testing.T) {
	const many = 300000
	same, each := make([]int, many), make([]int, many)
	for i := range each {
		each[many-1-i] = 2 * i
	}
	for _, x := range []struct {
		l            []int
		window, want int
	}{{same, 0, many}, {same, -1, 0}, {each, 0, 1}, {each, 1, 1}, {each, 100001, 50001}, {each, 2*many - 3, many - 1}, {each, 2*many - 2, many}} {
		if n := crowd.Most(x.l, x.window); n != x.want {
			t.Errorf("window %d: %d, want %d", x.window, n, x.want)
		}
	}
}

// 18.1, R4: the list handed in stays as it was, behind its end too.
func TestMostLeavesTheList(t *testing.T) {
	all := []int{9, 1, 5, 0, 7, -3, 2, 8}
	kept := slices.Clone(all)
	for range 2 { // R5: the same again
		if n := crowd.Most(all[2:5], 5); n != 2 {
			t.Errorf("%d", n)
		}
		if n := crowd.Most(all, 2); n != 3 {
			t.Errorf("%d", n)
		}
	}
	if !slices.Equal(all, kept) {
		t.Errorf("%v, was %v", all, kept)
	}
}

func read(t *testing.T, s string) api.Source {
	t.Helper()
	z, line, e := rules.Parse(s)
	if e != api.OK {
		t.Fatalf("line %d: %d: %s", line, e, s)
	}
	return z
}

// dueCrowded counts, at each change, those of it and ahead of it that are no more than 36 hours away.
func dueCrowded(t *testing.T, z api.Source) bool {
	t.Helper()
	l, e := expand.Changes(z, -9999, 9999)
	if e != api.OK {
		t.Fatalf("%d: %v", e, z)
	}
	for i := range l {
		n := 0
		for j := i; j >= 0 && l[j].Sec >= l[i].Sec-129600; j-- {
			n++
		}
		if n >= 4 {
			return true
		}
	}
	return false
}

func holdCrowded(t *testing.T, z api.Source, want bool) {
	t.Helper()
	if ok, e := crowd.Crowded(z); ok != want || e != api.OK {
		t.Errorf("%v %d, want %v: %v", ok, e, want, z)
	}
}

// once are lines of changes at these seconds, each to another offset than the one ahead.
func once(secs ...int) []api.Line {
	var out []api.Line
	for i, sec := range secs {
		out = append(out, api.Line{Kind: 1, Sec: sec, Triple: api.Triple{Offset: 60 * (i + 1), Abbr: "A"}})
	}
	return out
}

func zoneOf(lines []api.Line) api.Source {
	return api.Source{Name: "Z", Base: api.Triple{Abbr: "U"}, Lines: lines}
}

func second(y, m, d, h int) int {
	return int(time.Date(y, time.Month(m), d, h, 0, 0, 0, time.UTC).Unix())
}

// 18.2: four changes within 36 hours, at its ends and one second past them; three, five and more; all over the range.
func TestCrowdedOfSeconds(t *testing.T) {
	for _, x := range []struct {
		secs []int
		want bool
	}{
		{nil, false}, {[]int{0}, false}, {[]int{0, 1, 2}, false}, {[]int{0, 1, 2, 3}, true}, {[]int{0, 1, 2, 3, 4}, true},
		{[]int{0, 43200, 86400, 129600}, true}, {[]int{0, 43200, 86400, 129601}, false}, {[]int{0, 1, 2, 129600}, true}, {[]int{0, 1, 2, 129601}, false},
		{[]int{-129600, -2, -1, 0}, true}, {[]int{-129601, -2, -1, 0}, false}, {[]int{-64800, -1, 0, 64800}, true}, {[]int{-64800, -1, 0, 64801}, false},
		{[]int{129600, 0, 86400, 43200}, true}, {[]int{129601, 0, 86400, 43200}, false}, // lines in any order
		{[]int{0, 0, 0, 0}, false}, {[]int{0, 0, 1, 2}, false}, {[]int{0, 1, 2, 2, 3}, true}, // one alone at one second
		{[]int{0, 64800, 129600, 194400, 259200, 324000}, false}, {[]int{0, 43200, 86400, 129601, 172800, 172801}, true},
		{[]int{-1 << 33, 0, 43200, 86400, 129601, 1 << 33}, false}, {[]int{-1 << 33, 0, 43200, 86400, 129600, 1 << 33}, true},
		{[]int{first, first + 1, first + 2, first + 129600}, true}, {[]int{first, first + 1, first + 2, first + 129601}, false},
		{[]int{end, end - 1, end - 2, end - 129600}, true}, {[]int{end, end - 1, end - 2, end - 129601}, false},
		{[]int{first, first + 1, end - 1, end}, false}, {[]int{first, first + 1, first + 2, end}, false},
		{[]int{second(2024, 12, 31, 0), second(2024, 12, 31, 23), second(2025, 1, 1, 0), second(2025, 1, 1, 12)}, true}, // over a year's end
	} {
		holdCrowded(t, zoneOf(once(x.secs...)), x.want)
	}
}

// 18.2: changes count, other events do not.
func TestCrowdedOfChanges(t *testing.T) {
	at := func(hour, what string) string { return "at 2000-01-01T" + hour + ":00 " + what + "\n" }
	a, b := "+01:00 std A", "+02:00 std B"
	for _, x := range []struct {
		text string
		want bool
	}{
		{at("00:00", a) + at("01:00", b) + at("02:00", a) + at("03:00", b), true},
		{at("00:00", "+00:00 std U") + at("01:00", b) + at("02:00", a) + at("03:00", b), false}, // the first has what Base has
		{at("00:00", a) + at("01:00", a) + at("02:00", b) + at("03:00", a), false},
		{at("00:00", a) + at("01:00", b) + at("02:00", b) + at("03:00", a), false},
		{at("00:00", a) + at("01:00", b) + at("02:00", a) + at("03:00", a), false},
		{at("00:00", a) + at("01:00", b) + at("02:00", b) + at("03:00", a) + at("04:00", b), true},
		{at("00:00", a) + at("01:00", "+01:00 dst A") + at("02:00", "+01:00 dst B") + at("03:00", "+01:00 std B"), true}, // the offset stays
		{at("00:00", a) + at("01:00", b) + at("02:00", a) + at("03:00", b) + at("02:00", b), false},                      // a later line at one's second
		{at("00:00", a) + at("01:00", b) + at("02:00", b) + at("03:00", b) + at("02:00", a), true},
	} {
		holdCrowded(t, read(t, head+x.text), x.want)
	}
}

// 18.2: rules, whose moments meet in some years alone, or in one.
func TestCrowdedOfRules(t *testing.T) {
	a, b, c, d := " +01:00 std A\n", " +02:00 std B\n", " +03:00 std C\n", " +04:00 std D\n"
	leap := func(years string) string { // four within 36 hours, if there is a February 29th
		return "rule " + years + " feb 28 12:00 +00:00" + a + "rule " + years + " feb 29 00:00 +00:00" + b +
			"rule " + years + " feb 29 12:00 +00:00" + c + "rule " + years + " mar 1 00:00 +00:00" + d
	}
	ahead := func(years, read string) string { // of January 1st, read so
		return "rule " + years + " jan 1 00:00 " + read + a + "rule " + years + " jan 1 01:00 " + read + b +
			"rule " + years + " jan 1 02:00 " + read + c + "rule " + years + " jan 1 03:00 " + read + d
	}
	for _, x := range []struct {
		text string
		want bool
	}{
		{"", false},
		{"rule 1996 on mar last-sun 01:00 +00:00" + a + "rule 1996 on oct last-sun 01:00 +00:00" + b, false},
		{leap("1996 on"), true}, {leap("9997 on"), false}, {leap("9996 on"), true}, {leap("-9999 -9997"), false}, {leap("-9999 -9996"), true},
		{leap("1897 1903"), false}, {leap("1897 1904"), true}, {leap("1997 1999"), false}, {leap("1997 2000"), true}, {leap("0 only"), true}, {leap("-100 only"), false},
		{"rule 2000 on dec 31 00:00 +00:00" + a + "rule 2000 on dec 31 12:00 +00:00" + b + "rule 2000 on jan 1 00:00 +00:00" + c + "rule 2000 on jan 1 12:00 +00:00" + d, true},
		{"rule 2000 2000 dec 31 00:00 +00:00" + a + "rule 2000 2000 dec 31 12:00 +00:00" + b + "rule 2000 2000 jan 1 00:00 +00:00" + c + "rule 2000 2000 jan 1 12:00 +00:00" + d, false},
		{"rule 2000 on mar last-sun 01:00 +00:00" + a + "rule 2000 on mar last-sun 01:00 -18:00" + b + "rule 2000 on mar last-sun 01:00 +18:00" + c + "rule 2000 on mar last-sun 02:00 +00:00" + d, true},
		{"rule 2000 on mar last-sun 01:00 +00:00" + a + "rule 2000 on mar last-sun 01:00 -18:00" + b + "rule 2000 on mar last-sun 00:59 +18:00" + c + "rule 2000 on mar last-sun 02:00 +00:00" + d, false},
		{ahead("-9999 only", "+00:00"), true}, {ahead("-9999 only", "+18:00"), false}, {ahead("-9999 only", "+00:01"), false}, // ahead of the range is no event
		{ahead("-9998 only", "+18:00"), true}, {ahead("-9999 on", "+18:00"), true},
		{"rule 9999 only dec 31 03:00 +00:00" + a + "rule 9999 only dec 31 04:00 +00:00" + b + "rule 9999 only dec 31 05:00 +00:00" + c, false},
		{"rule 9999 only dec 31 03:00 +00:00" + a + "rule 9999 only dec 31 04:00 +00:00" + b + "rule 9999 only dec 31 05:00 +00:00" + c + "rule 9999 on jan 1 00:00 +18:00" + d, true}, // that of year 10000
		{"rule 9999 only dec 31 03:00 +00:00" + a + "rule 9999 only dec 31 04:00 +00:00" + b + "rule 9999 only dec 31 05:00 +00:00" + c + "rule 9999 on jan 1 00:00 +00:00" + d, false},
		{"rule 9999 only dec 31 03:00 +00:00" + a + "rule 9999 only dec 31 04:00 +00:00" + b + "rule 9999 only dec 31 05:00 +00:00" + c + "rule 9999 only dec 31 24:00 -18:00" + d, false}, // behind the range
	} {
		z := read(t, head+x.text)
		holdCrowded(t, z, x.want)
		if due := dueCrowded(t, z); due != x.want {
			t.Errorf("%v is due, not %v: %s", due, x.want, x.text)
		}
	}
}

// anyLine has few days, hours and Triples, so that some zones are crowded and some are not.
func anyLine(r *rand.Rand, tails *int) api.Line {
	triple := api.Triple{Offset: r.Intn(5) * 3600, Abbr: "A"}
	if r.Intn(3) == 0 {
		return api.Line{Kind: 1, Sec: second(2000, 3, 1+r.Intn(3), r.Intn(24)) + r.Intn(2), Triple: triple}
	}
	from := []int{-9999, 1999, 9998}[r.Intn(3)]
	to := min(from+r.Intn(3), 9999)
	if *tails < 4 && r.Intn(2) == 0 {
		to, *tails = 1<<20, *tails+1
	}
	l := api.Line{Kind: 2, From: from, To: to, Month: 2 + r.Intn(2), Time: r.Intn(25) * 3600, Triple: triple}
	l.Read = []int{0, 64800, -64800}[r.Intn(3)]
	n, w := 1+r.Intn(3), 1+r.Intn(7)
	l.Day = []api.Day{{N: n}, {N: n + 26}, {Kind: 1, W: w}, {Kind: 2, N: n, W: w}, {Kind: 3, N: n + 6, W: w}}[r.Intn(5)]
	return l
}

// 18.2: zones of all kinds of lines.
func TestCrowdedOfAnyZones(t *testing.T) {
	r := rand.New(rand.NewSource(18))
	count := map[bool]int{}
	for range 150 {
		z, tails := zoneOf(nil), 0
		for range 4 + r.Intn(13) {
			z.Lines = append(z.Lines, anyLine(r, &tails))
		}
		due := dueCrowded(t, z)
		count[due]++
		holdCrowded(t, z, due)
	}
	if count[true] < 25 || count[false] < 25 {
		t.Errorf("the zones are too much alike: %v", count)
	}
}

// 18.2, R2: chapter 15's Check's error, the least of several, and false beside it, of zones that would be crowded too.
func TestCrowdedOfBadZones(t *testing.T) {
	base := api.Triple{Abbr: "U"}
	full := once(0, 1, 2, 3)
	wrong, far, late := slices.Clone(full), slices.Clone(full), slices.Clone(full)
	wrong[1].From = 1
	far[2].Triple.Offset = 64801
	late[3].Sec = end + 1
	for i, x := range []struct {
		z    api.Source
		want api.Errno
	}{
		{api.Source{}, api.ErrSyntax}, {api.Source{Name: "", Base: base, Lines: full}, api.ErrSyntax}, {api.Source{Name: "Z", Lines: full}, api.ErrSyntax},
		{api.Source{Name: "Z", Base: base, Lines: slices.Repeat(full, 5)}, api.ErrTooBig}, {api.Source{Lines: slices.Repeat(wrong, 5)}, api.ErrTooBig},
		{api.Source{Name: "Z", Base: api.Triple{Dst: true, Abbr: "U"}, Lines: full}, api.ErrBadArg}, {api.Source{Name: "Z", Base: base, Lines: wrong}, api.ErrBadArg},
		{api.Source{Name: "Z", Base: base, Lines: []api.Line{{}}}, api.ErrSyntax}, {api.Source{Name: "Z", Base: base, Lines: far}, api.ErrRange},
		{api.Source{Name: "Z", Base: base, Lines: late}, api.ErrRange}, {api.Source{Name: "Z", Base: api.Triple{Offset: most, Abbr: "U"}, Lines: full}, api.ErrRange},
		{api.Source{Name: "Z", Base: base, Lines: once(least, least+1, least+2, most)}, api.ErrRange}, {api.Source{Name: "Z", Base: base, Lines: slices.Concat(wrong, far)}, api.ErrBadArg},
	} {
		if ok, e := crowd.Crowded(x.z); ok || e != x.want || e != rules.Check(x.z) {
			t.Errorf("%d: %v %d, want %d", i, ok, e, x.want)
		}
	}
}

// 18.2, R4, R5: the zone handed in stays as it was, behind its lines' end too, and the same again is answered.
func TestCrowdedLeavesTheZone(t *testing.T) {
	all := once(129600, 3, 2, 1, 0, 5)
	z := zoneOf(all[:3])
	kept := slices.Clone(all)
	for range 2 {
		holdCrowded(t, z, false)
		holdCrowded(t, zoneOf(all[:4]), true)
	}
	if !reflect.DeepEqual(all, kept) || !reflect.DeepEqual(z, zoneOf(kept[:3])) {
		t.Errorf("%v, was %v", all, kept)
	}
}
