package image_test

// Each test names what it holds of promises 21.1 to 21.3 (shared/doc/21-image.md). What bytes a table should have is
// written out by hand, or laid by the library's own numbers; what table bytes should have is told by these as well.

import (
	"encoding/binary"
	"encoding/hex"
	"math"
	"math/rand"
	"reflect"
	"slices"
	"strings"
	"testing"
	"time"
	"unsafe"

	"analemma/api"
	"analemma/image"
	"analemma/table"
)

const (
	most  = math.MaxInt
	least = math.MinInt
	first = -377705116800 // the first second of -9999
	end   = 253402300799  // the last one of 9999
	cycle = 12622780800
	land  = "zone Mid/Land\nbase +01:00 CET\n" +
		"rule 1996 on mar last-sun 01:00 +00:00 +02:00 dst CEST\nrule 1996 on oct last-sun 01:00 +00:00 +01:00 std CET\n"
	head = "zone Z\nbase +00:00 U\n"
)

var (
	u = api.Triple{Abbr: "U"}
	a = api.Triple{Offset: 3600, Abbr: "A"}
	b = api.Triple{Offset: 7200, Dst: true, Abbr: "BeBeBe"}
	c = api.Triple{Offset: -64800, Abbr: "Ce"}
)

// behind is the first second behind a year.
func behind(year int) int {
	return int(time.Date(year+1, 1, 1, 0, 0, 0, 0, time.UTC).Unix())
}

func load(t testing.TB, s string) api.Table {
	t.Helper()
	x, e := table.Load(s)
	if e != api.OK {
		t.Fatalf("%d: %s", e, s)
	}
	return x
}

func same(x, y api.Table) bool {
	return x.Name == y.Name && x.Base == y.Base && x.Last == y.Last && x.First == y.First &&
		slices.Equal(x.Changes, y.Changes) && slices.Equal(x.Tail, y.Tail)
}

func copied(x api.Table) api.Table {
	x.Changes, x.Tail = slices.Clone(x.Changes), slices.Clone(x.Tail)
	return x
}

// list has these Triples one after the other.
func list(of []api.Triple, secs ...int) []api.Change {
	var out []api.Change
	for i, sec := range secs {
		out = append(out, api.Change{Sec: sec, Triple: of[i]})
	}
	return out
}

// days are changes day by day, A and BeBeBe.
func days(from, n int) []api.Change {
	var out []api.Change
	for k := range n {
		out = append(out, api.Change{Sec: from + k*86400, Triple: []api.Triple{a, b}[k%2]})
	}
	return out
}

// dueTriple and dueImage lay what fits, whether it may be or not.
func dueTriple(x api.Triple) []byte {
	out := binary.BigEndian.AppendUint32(nil, uint32(int32(x.Offset)))
	letters := byte(len(x.Abbr))
	if x.Dst {
		letters |= 0x80
	}
	return append(append(out, letters), (x.Abbr + "\x00\x00\x00\x00\x00\x00")[:6]...)
}

func dueImage(x api.Table) string {
	out := append([]byte("ANLM"), 1, byte(len(x.Name)))
	out = append(out, (x.Name + strings.Repeat("\x00", 32))[:32]...)
	out = append(out, dueTriple(x.Base)...)
	out = binary.BigEndian.AppendUint32(out, uint32(int32(x.Last)))
	out = binary.BigEndian.AppendUint64(out, uint64(x.First))
	out = binary.BigEndian.AppendUint16(out, uint16(len(x.Changes)))
	out = binary.BigEndian.AppendUint16(out, uint16(len(x.Tail)))
	for _, l := range slices.Concat(x.Changes, x.Tail) {
		out = append(binary.BigEndian.AppendUint64(out, uint64(l.Sec)), dueTriple(l.Triple)...)
	}
	return string(out)
}

// dueTable is what Decode must answer, read place by place.
func dueTable(s string) (api.Table, api.Errno) {
	if len(s) > 77000 {
		return api.Table{}, api.ErrTooBig
	}
	if len(s) < 65 || s[:5] != "ANLM\x01" || s[5] > 32 || strings.Trim(s[6+s[5]:38], "\x00") != "" {
		return api.Table{}, api.ErrSyntax
	}
	well := true
	triple := func(s string) api.Triple {
		n := min(int(s[4]&0x7f), 6)
		well = well && n == int(s[4]&0x7f) && strings.Trim(s[5+n:11], "\x00") == ""
		return api.Triple{Offset: int(int32(binary.BigEndian.Uint32([]byte(s)))), Dst: s[4] > 0x7f, Abbr: s[5 : 5+n]}
	}
	x := api.Table{Name: s[6 : 6+s[5]], Base: triple(s[38:]), Last: int(int32(binary.BigEndian.Uint32([]byte(s[49:])))), First: int(binary.BigEndian.Uint64([]byte(s[53:])))}
	changes, tail := int(binary.BigEndian.Uint16([]byte(s[61:]))), int(binary.BigEndian.Uint16([]byte(s[63:])))
	if len(s) != 65+19*changes+19*tail {
		return api.Table{}, api.ErrSyntax
	}
	for at := 65; at < len(s); at += 19 {
		l := api.Change{Sec: int(binary.BigEndian.Uint64([]byte(s[at:]))), Triple: triple(s[at+8:])}
		if len(x.Changes) < changes {
			x.Changes = append(x.Changes, l)
		} else {
			x.Tail = append(x.Tail, l)
		}
	}
	switch e := table.Check(x); {
	case well && e == api.OK:
		return x, api.OK
	case well && e == api.ErrCrowded:
		return api.Table{}, api.ErrCrowded
	}
	return api.Table{}, api.ErrSyntax
}

// holdDecode tells, too, what was due.
func holdDecode(t testing.TB, s string) api.Errno {
	t.Helper()
	want, e := dueTable(s)
	got, f := image.Decode(s)
	if !same(got, want) || e != f {
		t.Fatalf("Decode(%q): %+v %d, want %+v %d", s, got, f, want, e)
	}
	if e == api.OK && dueImage(got) != s {
		t.Fatalf("Decode(%q): %+v", s, got)
	}
	return e
}

// hold takes tables that may be.
func hold(t testing.TB, x api.Table, want string) {
	t.Helper()
	s, e := image.Encode(x)
	if s != want || e != api.OK {
		t.Fatalf("Encode(%+v): %x %d, want %x", x, s, e, want)
	}
	if n := image.Size(x); n != len(want) || n != 65+19*(len(x.Changes)+len(x.Tail)) {
		t.Fatalf("Size(%+v): %d, want %d", x, n, len(want))
	}
	if y, e := image.Decode(s); !same(x, y) || e != api.OK {
		t.Fatalf("Decode(%q): %+v %d, want %+v", s, y, e, x)
	}
}

// holdNone takes tables that may not be.
func holdNone(t testing.TB, x api.Table, want api.Errno) {
	t.Helper()
	if s, e := image.Encode(x); s != "" || e != want || e != table.Check(x) || image.Size(x) != 0 {
		t.Fatalf("Encode(%+v): %q %d, Size %d, want %d", x, s, e, image.Size(x), want)
	}
}

// bytesOf reads bytes that are written out, by twos of letters, among blanks.
func bytesOf(t testing.TB, parts ...string) string {
	t.Helper()
	out, e := hex.DecodeString(strings.ReplaceAll(strings.Join(parts, ""), " ", ""))
	if e != nil {
		t.Fatal(e)
	}
	return string(out)
}

// 21.1, 21.2: byte by byte.
func TestBytesByHand(t *testing.T) {
	zeros := func(n int) string { return strings.Repeat("00", n) }
	hold(t, api.Table{Name: "U", Base: api.Triple{Abbr: "UTC"}, Last: -9999}, bytesOf(t,
		"41 4e 4c 4d 01", "01 55", zeros(31), "00 00 00 00  03 55 54 43 00 00 00", "ff ff d8 f1", zeros(8), "00 00", "00 00"))
	hold(t, api.Table{Name: strings.Repeat("a", 32), Base: api.Triple{Offset: -1, Abbr: "zzzzzz"}, Last: 9999}, bytesOf(t,
		"41 4e 4c 4d 01", "20", strings.Repeat("61", 32), "ff ff ff ff  06 7a 7a 7a 7a 7a 7a", "00 00 27 0f", zeros(8), "00 00", "00 00"))
	hold(t, api.Table{Name: "Mid/Land_1-", Base: api.Triple{Offset: 64800, Abbr: "A"}, Last: 1969, First: 1, Changes: []api.Change{
		{Sec: first, Triple: api.Triple{Offset: -64800, Abbr: "BC"}},
		{Sec: -2, Triple: api.Triple{Offset: -3601, Dst: true, Abbr: "abcdef"}},
	}, Tail: []api.Change{{Sec: 258, Triple: api.Triple{Offset: 1, Dst: true, Abbr: "Z"}}}}, bytesOf(t,
		"41 4e 4c 4d 01", "0b 4d 69 64 2f 4c 61 6e 64 5f 31 2d", zeros(21), "00 00 fd 20  01 41 00 00 00 00 00",
		"00 00 07 b1", "00 00 00 00 00 00 00 01", "00 02", "00 01",
		"ff ff ff a8 0f 05 4b 80", "ff ff 02 e0  02 42 43 00 00 00 00",
		"ff ff ff ff ff ff ff fe", "ff ff f1 ef  86 61 62 63 64 65 66",
		"00 00 00 00 00 00 01 02", "00 00 00 01  81 5a 00 00 00 00 00"))
}

// 21.1, 21.3: Last 1997, 804 changes.
func TestLand(t *testing.T) {
	x := load(t, land)
	hold(t, x, dueImage(x))
	if n := image.Size(x); n != 15341 {
		t.Errorf("%d", n)
	}
	s, _ := image.Encode(x)
	y, _ := image.Decode(s)
	july := int(time.Date(9998, 7, 1, 0, 0, 0, 0, time.UTC).Unix())
	if got, e := table.At(y, july); got != (api.Triple{Offset: 7200, Dst: true, Abbr: "CEST"}) || e != api.OK {
		t.Errorf("%v %d", got, e)
	}
}

// tables are of few and many changes, at the ends of what may be.
func tables(t testing.TB) []api.Table {
	out := []api.Table{
		{Name: "Z", Base: u}, {Name: "Z", Base: u, Last: -1}, {Name: "Z", Base: c, Last: -9999, Changes: list([]api.Triple{a}, first)},
		{Name: "-/_09azAZ", Base: u, Last: 9999, Changes: list([]api.Triple{a, b}, first, end)},
		{Name: "Z", Base: u, Last: 9998, First: end, Tail: list([]api.Triple{a}, end)},
		{Name: "Z", Base: u, Last: 1970, Changes: list([]api.Triple{a, b, c, a}, 0, 1, 2, 130000)},                                  // nearly crowded
		{Name: "Z", Base: u, Last: 2000, First: behind(2000), Tail: list([]api.Triple{a, b}, behind(2000)+1, behind(2000)+cycle-1)}, // First is ahead of Tail
		{Name: "Z", Base: u, Last: -9999, First: behind(-9999), Changes: list([]api.Triple{c}, behind(-9999)-1), Tail: list([]api.Triple{a, b, u}, behind(-9999), behind(-9999)+1, behind(-9999)+cycle-200000)},
		{Name: "Z", Base: u, Last: 1999, First: behind(1999), Changes: days(behind(1999)-2000*86400, 2000), Tail: days(behind(1999), 2000)},
	}
	for _, text := range []string{
		land, head, head + "at 2001-06-01T00:00:00 +01:00 std A\n", head + "at -9999-01-01T00:00:00 -18:00 dst A\n", head + "at 9999-12-31T23:59:59 +18:00 std A\n",
		head + "rule 2000 2009 mar 1 00:00 +00:00 +01:00 std A\nrule 2000 2009 jun 1 00:00 +00:00 +02:00 dst B\n",
		head + "rule 9997 on jan 1 00:00 +18:00 +01:00 std A\nrule 9997 on jun 1 00:00 +00:00 +02:00 dst B\n",
		head + "rule -9999 on mar 1 00:00 +00:00 +01:00 std A\nrule -9999 on jun sun>=25 00:00 +00:00 +02:00 dst B\n",
		head + "rule 2000 on feb 29 00:00 +00:00 +01:00 std A\nrule 2000 on feb 29 12:00 +00:00 +02:00 dst B\nat 2001-06-01T00:00:00 +01:00 std A\n",
	} {
		out = append(out, load(t, text))
	}
	return out
}

// 21.1, 21.3, T5, T7: as long as the changes make it, whatever the years are.
func TestThereAndBack(t *testing.T) {
	for _, x := range tables(t) {
		hold(t, x, dueImage(x))
	}
	for year := -9999; year <= 9999; year += 7 {
		hold(t, api.Table{Name: "Z", Base: u, Last: year}, dueImage(api.Table{Name: "Z", Base: u, Last: year}))
	}
	for offset := -64800; offset <= 64800; offset += 11 {
		x := api.Table{Name: "Z", Base: api.Triple{Offset: offset, Abbr: "U"}, Last: 1970, Changes: []api.Change{{Sec: offset, Triple: api.Triple{Offset: -offset, Dst: true, Abbr: "U"}}}}
		hold(t, x, dueImage(x))
	}
}

// 21.1, T2: as many seconds as there are changes, and those ahead of them, have the same in a table that is read.
func TestDecodedHasTheSame(t *testing.T) {
	for _, x := range tables(t) {
		s, _ := image.Encode(x)
		y, e := image.Decode(s)
		if e != api.OK {
			t.Fatalf("%d: %+v", e, x)
		}
		sec, more := first, true
		for n := 0; more && n < 20; n++ {
			for _, at := range []int{sec - 1, sec, sec + 5*cycle} {
				want, e := table.At(x, at)
				if got, f := table.At(y, at); got != want || e != f {
					t.Fatalf("At(%d): %v %d, want %v %d: %+v", at, got, f, want, e, x)
				}
			}
			sec, more = table.Next(x, sec)
		}
	}
}

// 21.1: chapter 19's Check's errors, no bytes beside them, and no size.
func TestEncodeErrors(t *testing.T) {
	start := behind(2000)
	due := api.Table{Name: "Z", Base: u, Last: 2000, First: start, Changes: list([]api.Triple{a, b}, 0, 1000000), Tail: list([]api.Triple{u, c}, start+1, start+2)}
	hold(t, due, dueImage(due))
	for _, l := range []struct {
		turn func(x *api.Table)
		want api.Errno
	}{
		{func(x *api.Table) { *x = api.Table{} }, api.ErrSyntax}, {func(x *api.Table) { x.Name = "" }, api.ErrSyntax}, {func(x *api.Table) { x.Name = strings.Repeat("a", 33) }, api.ErrSyntax}, {func(x *api.Table) { x.Name = strings.Repeat("a", 1<<20) }, api.ErrSyntax},
		{func(x *api.Table) { x.Name = "a\x00" }, api.ErrSyntax}, {func(x *api.Table) { x.Base.Abbr = "" }, api.ErrSyntax}, {func(x *api.Table) { x.Base.Abbr = "ABCDEFG" }, api.ErrSyntax}, {func(x *api.Table) { x.Tail[1].Triple.Abbr = strings.Repeat("A", 300) }, api.ErrSyntax},
		{func(x *api.Table) { x.Changes = make([]api.Change, 2001) }, api.ErrTooBig}, {func(x *api.Table) { x.Tail, x.Name = make([]api.Change, 2001), "" }, api.ErrTooBig}, {func(x *api.Table) { x.Tail = make([]api.Change, 1<<17) }, api.ErrTooBig},
		{func(x *api.Table) { x.Base.Dst = true }, api.ErrBadArg}, {func(x *api.Table) { x.Last = 10000 }, api.ErrBadArg}, {func(x *api.Table) { x.Last = 2000 + 1<<32 }, api.ErrBadArg}, {func(x *api.Table) { x.Last = least }, api.ErrBadArg},
		{func(x *api.Table) { x.First = 0 }, api.ErrBadArg}, {func(x *api.Table) { x.Tail = nil }, api.ErrBadArg}, {func(x *api.Table) { x.Changes[1].Sec = -1 }, api.ErrBadArg}, {func(x *api.Table) { x.Changes[1].Triple = a }, api.ErrBadArg},
		{func(x *api.Table) { x.Base.Offset = 64801 }, api.ErrRange}, {func(x *api.Table) { x.Base.Offset = 1 << 32 }, api.ErrRange}, {func(x *api.Table) { x.Changes[0].Sec = first - 1 }, api.ErrRange}, {func(x *api.Table) { x.Tail[0].Triple.Offset = most }, api.ErrRange},
		{func(x *api.Table) { x.Changes[0].Sec, x.Changes[1].Sec = start-2, start-1 }, api.ErrCrowded},
	} {
		x := copied(due)
		l.turn(&x)
		holdNone(t, x, l.want)
	}
}

// 21.2, 21.3: each byte turned to each other one is another table, or an error.
func TestTurnedBytes(t *testing.T) {
	count := map[api.Errno]int{}
	for _, x := range tables(t)[:8] {
		s := []byte(dueImage(x))
		for i, kept := range s {
			for n := range 256 {
				s[i] = byte(n)
				e := holdDecode(t, string(s))
				count[e]++
				if y, _ := image.Decode(string(s)); e == api.OK && same(x, y) != (byte(n) == kept) {
					t.Fatalf("%d: %d to %d: %+v", i, kept, n, y)
				}
			}
			s[i] = kept
		}
	}
	if count[api.OK] < 3000 || count[api.ErrSyntax] < 100000 || count[api.ErrCrowded] < 10 || len(count) != 3 {
		t.Errorf("%v", count)
	}
}

// 21.2: what is too short, too long, or of another length than its numbers tell.
func TestLengths(t *testing.T) {
	for _, x := range tables(t)[:8] {
		s := dueImage(x)
		for n := range len(s) {
			if e := holdDecode(t, s[:n]); e != api.ErrSyntax {
				t.Fatalf("%q: %d", s[:n], e)
			}
		}
		for n := 1; n < 60; n++ {
			for _, more := range []string{strings.Repeat("\x00", n), strings.Repeat("x", n), (s + s)[:n]} {
				if e := holdDecode(t, s+more); e != api.ErrSyntax {
					t.Fatalf("%q: %d", s+more, e)
				}
				if e := holdDecode(t, more+s); e != api.ErrSyntax {
					t.Fatalf("%q: %d", more+s, e)
				}
			}
		}
	}
	whole := dueImage(tables(t)[8])
	if len(whole) != 76065 || holdDecode(t, whole) != api.OK {
		t.Errorf("%d", len(whole))
	}
	for _, s := range []string{"", whole, strings.Repeat("\x00", 65), strings.Repeat("\xff", 65)} {
		for n, want := range map[int]api.Errno{76999: api.ErrSyntax, 77000: api.ErrSyntax, 77001: api.ErrTooBig, 77002: api.ErrTooBig, 1 << 20: api.ErrTooBig} {
			if e := holdDecode(t, s+strings.Repeat("\x00", n-len(s))); e != want {
				t.Errorf("%d: %d, want %d", n, e, want)
			}
		}
	}
}

// 21.2: what is said of how many changes there are, and is not so; numbers that are below 0 if their highest bit is a
// sign.
func TestCounts(t *testing.T) {
	x := api.Table{Name: "Z", Base: u, Last: 2000, First: behind(2000), Changes: list([]api.Triple{a, b}, 0, 1000000), Tail: list([]api.Triple{u, a}, behind(2000), behind(2000)+1)}
	s := []byte(dueImage(x))
	for changes := range 1 << 16 {
		for _, tail := range []int{4 - changes, 2, 0, 1<<15 - changes, 1<<16 - changes} {
			binary.BigEndian.PutUint16(s[61:], uint16(changes))
			binary.BigEndian.PutUint16(s[63:], uint16(tail))
			if e := holdDecode(t, string(s)); (e == api.OK) != (changes == 2 && uint16(tail) == 2) || e != api.OK && e != api.ErrSyntax {
				t.Fatalf("%d %d: %d", changes, tail, e)
			}
		}
	}
	for _, n := range []int{0, 1, 4, 64, 127, 128, 255} {
		for _, r := range []string{"\x00\x00\x00\x00", "\xff\xff\xff\xff", "\x80\x00\x80\x00", "\xff\xff\x00\x01"} {
			holdDecode(t, string(s[:61])+r+strings.Repeat("\x00", 19*n))
			holdDecode(t, string(s[:61])+r+string(s[65:])+strings.Repeat("\xff", 19*n))
		}
	}
}

// 21.2: more changes than a table may have are ErrSyntax: the bytes are not too many.
func TestMostChanges(t *testing.T) {
	start := behind(1999)
	for _, l := range []struct {
		changes, tail int
		want          api.Errno
	}{
		{2000, 2000, api.OK}, {2000, 0, api.OK}, {0, 2000, api.OK}, {2001, 0, api.ErrSyntax}, {0, 2001, api.ErrSyntax},
		{2001, 2000, api.ErrSyntax}, {2000, 2001, api.ErrSyntax}, {4049, 0, api.ErrSyntax}, {0, 4049, api.ErrSyntax}, {4050, 0, api.ErrTooBig}, {2000, 2050, api.ErrTooBig},
	} {
		x := api.Table{Name: "Z", Base: u, Last: 1999, First: start, Changes: days(start-l.changes*86400, l.changes), Tail: days(start, l.tail)}
		if l.tail == 0 {
			x.First = 0
		}
		if e := holdDecode(t, dueImage(x)); e != l.want {
			t.Errorf("%d %d: %d, want %d", l.changes, l.tail, e, l.want)
		}
		if l.want == api.OK {
			hold(t, x, dueImage(x))
		} else {
			holdNone(t, x, api.ErrTooBig)
		}
	}
}

// 21.2: tables that may not be have bytes that fit as well; ErrCrowded is told just where nothing else is wrong.
func TestDecodeErrors(t *testing.T) {
	start := behind(2000)
	crowd := api.Table{Name: "Z", Base: u, Last: 2000, First: start, Changes: list([]api.Triple{a, b}, start-2, start-1), Tail: list([]api.Triple{u, c}, start, start+1)}
	holdNone(t, crowd, api.ErrCrowded)
	s := dueImage(crowd)
	if e := holdDecode(t, s); e != api.ErrCrowded {
		t.Errorf("%d", e)
	}
	for _, bad := range []string{s + "\x00", s[:len(s)-1], "anlm" + s[4:], s[:4] + "\x02" + s[5:], s[:37] + "\x01" + s[38:], s[:len(s)-1] + "\x01", s[:5] + "\x21" + s[6:], s[:42] + "\x07" + s[43:], s[:42] + "\x81" + s[43:]} {
		if e := holdDecode(t, bad); e != api.ErrSyntax {
			t.Errorf("%q: %d", bad, e)
		}
	}
	for i, turn := range []func(x *api.Table){
		func(x *api.Table) { x.Name = "" }, func(x *api.Table) { x.Name = "a b" }, func(x *api.Table) { x.Name = "a\x00" }, func(x *api.Table) { x.Name = "\x00a" }, func(x *api.Table) { x.Base.Abbr = "" }, func(x *api.Table) { x.Base.Abbr = "A1" }, func(x *api.Table) { x.Tail[1].Triple.Abbr = "A\x00" },
		func(x *api.Table) { x.Base.Dst = true }, func(x *api.Table) { x.Last = 10000 }, func(x *api.Table) { x.Last = -10000 }, func(x *api.Table) { x.Last = math.MinInt32 }, func(x *api.Table) { x.Last = math.MaxInt32 },
		func(x *api.Table) { x.First = 0 }, func(x *api.Table) { x.First = start + 1 }, func(x *api.Table) { x.First = least }, func(x *api.Table) { x.First = most },
		func(x *api.Table) { x.Changes[1].Sec = start - 2 }, func(x *api.Table) { x.Changes[1].Triple = a }, func(x *api.Table) { x.Changes[0].Sec = least }, func(x *api.Table) { x.Tail[1].Sec = most }, func(x *api.Table) { x.Tail[0].Triple = b },
		func(x *api.Table) { x.Base.Offset = 64801 }, func(x *api.Table) { x.Base.Offset = math.MinInt32 }, func(x *api.Table) { x.Changes[0].Sec = first - 1 }, func(x *api.Table) { x.Tail[1].Triple.Offset = -64801 },
	} {
		x := copied(crowd)
		turn(&x)
		if e := holdDecode(t, dueImage(x)); e != api.ErrSyntax {
			t.Errorf("%d: %d: %+v", i, e, x)
		}
	}
}

// anyTable has seconds all over the range, and any letters and offsets.
func anyTable(r *rand.Rand) api.Table {
	text := func(of string, n int) string {
		out := make([]byte, 1+r.Intn(n))
		for i := range out {
			out[i] = of[r.Intn(len(of))]
		}
		return string(out)
	}
	letters := "ABCDEFGHIJKLMNOPQRSTUVWXYZabcdefghijklmnopqrstuvwxyz"
	triple := func() api.Triple {
		return api.Triple{Offset: r.Intn(129601) - 64800, Dst: r.Intn(2) == 0, Abbr: text(letters, 6)}
	}
	lay := func(low, high, n int) (out []api.Change) {
		for range n {
			out = append(out, api.Change{Sec: low + r.Intn(high-low+1), Triple: triple()})
		}
		slices.SortFunc(out, func(x, y api.Change) int { return x.Sec - y.Sec })
		return out
	}
	x := api.Table{Name: text(letters+"0123456789_-/", 32), Base: triple(), Last: r.Intn(19998) - 9998}
	x.Base.Dst = false
	start := behind(x.Last)
	x.Changes = lay(first, start-1, r.Intn(30))
	if x.Tail = lay(start, min(start+cycle-1, end), r.Intn(30)); len(x.Tail) > 0 {
		x.First = start + r.Intn(x.Tail[0].Sec-start+1)
	}
	return x
}

// 21.1, 21.3, T5: any tables, nearly all of which may be.
func TestAnyTables(t *testing.T) {
	r := rand.New(rand.NewSource(210))
	well := 0
	for range 2000 {
		x := anyTable(r)
		if e := table.Check(x); e != api.OK {
			holdNone(t, x, e)
			continue
		}
		hold(t, x, dueImage(x))
		well++
	}
	if well < 1500 {
		t.Errorf("%d", well)
	}
}

// 21.2, 21.3: any bytes of images turned, left out and put in.
func TestAnyBytes(t *testing.T) {
	r := rand.New(rand.NewSource(21))
	all := tables(t)
	count := map[api.Errno]int{}
	for range 20000 {
		x := all[r.Intn(8)]
		s := []byte(dueImage(x))
		for range 1 + r.Intn(3) {
			i := r.Intn(len(s))
			switch r.Intn(8) {
			case 0:
				s = slices.Delete(s, i, min(len(s), i+1+r.Intn(19)))
			case 1:
				s = slices.Insert(s, i, make([]byte, 1+r.Intn(19))...)
			case 2:
				s[i] = byte(r.Intn(256))
			case 3:
				binary.BigEndian.PutUint64(s[min(i, len(s)-8):], uint64(behind(r.Intn(20000)-10000)))
			default:
				s[i] ^= 1 << r.Intn(8)
			}
		}
		count[holdDecode(t, string(s))]++
	}
	if count[api.OK] < 200 || count[api.ErrSyntax] < 5000 {
		t.Errorf("%v", count)
	}
}

// 21.1, R4: what is handed in stays as it was, behind its lists' ends, too; what is handed out is its own memory, list
// by list and text by text.
func TestNothingIsShared(t *testing.T) {
	start := behind(2000)
	all := list([]api.Triple{a, b, u, c, a, b}, 0, 1000000, start+1, start+1000000, 3, 4)
	kept := slices.Clone(all)
	x := api.Table{Name: "Z", Base: u, Last: 2000, First: start + 1, Changes: all[:2], Tail: all[2:4]}
	want := copied(x)
	s, _ := image.Encode(x)
	hold(t, x, dueImage(want))
	if !reflect.DeepEqual(all, kept) {
		t.Errorf("%v", all)
	}
	for i := range all {
		all[i] = api.Change{Sec: most, Triple: b}
	}
	y, _ := image.Decode(s)
	z, _ := image.Decode(s)
	for _, l := range [][]api.Change{y.Changes, y.Tail} {
		if !slices.Equal(y.Tail, want.Tail) {
			t.Errorf("%v, want %v", y.Tail, want.Tail)
		}
		for i := range l[:cap(l)] {
			l[:cap(l)][i] = api.Change{Sec: most, Triple: b}
		}
	}
	if !same(z, want) {
		t.Errorf("%+v, want %+v", z, want)
	}
	for _, text := range []string{z.Name, z.Base.Abbr, z.Changes[0].Triple.Abbr, z.Tail[1].Triple.Abbr} {
		if p, q := uintptr(unsafe.Pointer(unsafe.StringData(text))), uintptr(unsafe.Pointer(unsafe.StringData(s))); p >= q && p < q+uintptr(len(s)) {
			t.Errorf("%q lies in the image", text)
		}
	}
}

// 21.2: any bytes at all (go test -fuzz=. ./image).
func FuzzDecode(f *testing.F) {
	for _, x := range tables(f)[:8] {
		f.Add(dueImage(x))
	}
	f.Fuzz(func(t *testing.T, s string) { holdDecode(t, s) })
}
