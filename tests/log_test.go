package tests

import (
	"math"
	"slices"
	"strings"
	"testing"

	"loop.example/kilnstone/impl"
)

// roomOf is how many bytes of an entry a page holds.
func roomOf(width int) int {
	return impl.SectorSize - width - 8
}

// text is one of so many bytes, no two neighbours of which are equal.
func text(size int) string {
	b := make([]byte, size)
	for i := range b {
		b[i] = byte(i*7 + i/256)
	}
	return string(b)
}

// laid is a disk with pages laid down from a sector on, all safe.
func laid(d impl.Disk, at int, pages ...string) impl.Disk {
	d = copied(d)
	for i, p := range pages {
		d.Sectors[at+i] = p
	}
	return d
}

func part(life, number int, text string) string {
	return formOf(impl.Page{Kind: impl.PagePart, Life: life, Number: number, Part: text}, 8)
}

func last(life, number int, text string) string {
	return formOf(impl.Page{Kind: impl.PageLast, Life: life, Number: number, Part: text}, 8)
}

func life(life, number int) string {
	return formOf(impl.Page{Kind: impl.PageLife, Life: life, Number: number}, 8)
}

func root(life, number int) string {
	return formOf(impl.Page{Kind: impl.PageRoot, Life: life, Number: number, Part: "\x00\x00\x00\x00\x01"}, 8)
}

func sameScanned(a, b impl.Scanned) bool {
	return slices.Equal(a.Entries, b.Entries) && a.Used == b.Used && a.Life == b.Life
}

func isNothingScanned(s impl.Scanned) bool {
	return len(s.Entries) == 0 && s.Used == 0 && s.Life == 0
}

// entrySizes are those at which the number of pages changes, and their neighbours.
func entrySizes(width int) []int {
	room := roomOf(width)
	return []int{0, 1, 2, room - 1, room, room + 1, 2*room - 1, 2 * room, 2*room + 1, 3 * room, 3*room + 1, 1000}
}

func TestPagesCountsThoseOfCut(t *testing.T) {
	for width := 1; width <= impl.MaxWidth; width++ {
		room := roomOf(width)
		for size, pages := range map[int]int{0: 1, 1: 1, room - 1: 1, room: 1, room + 1: 2, 2*room - 1: 2, 2 * room: 2, 2*room + 1: 3, 100 * room: 100, 100*room + 1: 101} {
			if got := impl.Pages(text(size), width); got != pages {
				t.Errorf("width %d, %d bytes: %d pages, not %d", width, size, got, pages)
			}
			if got := len(impl.Cut(text(size), 1, 1, width)); got != pages {
				t.Errorf("width %d, %d bytes: cut into %d, not %d", width, size, got, pages)
			}
		}
	}
	for _, width := range noWidths {
		for _, size := range []int{0, 1, 100} {
			if got := impl.Pages(text(size), width); got != 0 {
				t.Errorf("width %d, %d bytes: %d pages", width, size, got)
			}
		}
	}
}

// cutModel cuts a second way: piece by piece, as long as more is left than a page holds.
func cutModel(entry string, life, first, width int) []string {
	var forms []string
	for number := first; ; number++ {
		if len(entry) <= roomOf(width) {
			return append(forms, formOf(impl.Page{Kind: impl.PageLast, Life: life, Number: number, Part: entry}, width))
		}
		forms = append(forms, formOf(impl.Page{Kind: impl.PagePart, Life: life, Number: number, Part: entry[:roomOf(width)]}, width))
		entry = entry[roomOf(width):]
	}
}

func TestCutHoldsTheEntry(t *testing.T) {
	for width := 1; width <= impl.MaxWidth; width++ {
		for _, size := range entrySizes(width) {
			for _, life := range []int{1, 2, 256, impl.MaxLife} {
				pages := impl.Pages(text(size), width)
				for _, first := range []int{1, 2, 255, impl.MaxNumber - pages, impl.MaxNumber - pages + 1} {
					if got := impl.Cut(text(size), life, first, width); !slices.Equal(got, cutModel(text(size), life, first, width)) {
						t.Fatalf("width %d, %d bytes, life %d, first %d: %q", width, size, life, first, got)
					}
				}
			}
		}
	}
}

func TestCutOfAnEntryOfNoByte(t *testing.T) {
	if got := impl.Cut("", 3, 7, 8); len(got) != 1 || got[0] != last(3, 7, "") {
		t.Errorf("%q", got)
	}
}

func TestCutIsNothingIfOnePageIsNotValid(t *testing.T) {
	for width := 1; width <= impl.MaxWidth; width++ {
		for _, size := range entrySizes(width) {
			entry := text(size)
			pages := impl.Pages(entry, width)
			for _, life := range []int{0, -1, impl.MaxLife + 1, 65537, math.MinInt, math.MaxInt} {
				if got := impl.Cut(entry, life, 1, width); len(got) != 0 {
					t.Errorf("width %d, %d bytes, life %d: %d pages", width, size, life, len(got))
				}
			}
			for _, first := range []int{0, -1, -pages, 1 - pages, impl.MaxNumber - pages + 2, impl.MaxNumber + 1, 1<<32 + 1, math.MinInt, math.MaxInt, math.MaxInt - pages + 1} {
				if first >= 1 && first <= impl.MaxNumber-pages+1 {
					t.Fatalf("first %d is valid", first)
				}
				if got := impl.Cut(entry, 1, first, width); len(got) != 0 {
					t.Errorf("width %d, %d bytes, first %d: %d pages", width, size, first, len(got))
				}
			}
		}
	}
	for _, width := range noWidths {
		for _, size := range []int{0, 1, 200} {
			if got := impl.Cut(text(size), 1, 1, width); len(got) != 0 {
				t.Errorf("width %d: %d pages", width, len(got))
			}
		}
	}
}

// P3
func TestScanOfWhatCutLaidDown(t *testing.T) {
	r := dice(5)
	for round := 0; round < 600; round++ {
		width := 1 + r.roll(impl.MaxWidth)
		sectors := 8 + r.roll(193)
		from := r.roll(sectors)
		size := 1 + r.roll(sectors-from)
		first, begin := 1+r.roll(1000), 1+r.roll(5)
		var ops []impl.Op
		want := impl.Scanned{Life: begin}
		for life := begin; ; life += r.roll(2) {
			sizes := entrySizes(width)
			entry := text(sizes[r.roll(len(sizes))])
			pages := impl.Cut(entry, life, first+want.Used, width)
			if want.Used+len(pages) > size {
				break
			}
			for i, p := range pages {
				ops = append(ops, impl.Op{At: from + want.Used + i, Data: p})
			}
			want.Entries = append(want.Entries, entry)
			want.Used += len(pages)
			want.Life = life
			if r.roll(4) == 0 {
				ops = append(ops, impl.Op{Sync: true})
			}
		}
		// Behind what was laid down lies what it was before, which is no page.
		d := impl.Perform(plainDisk(sectors, 0), ops, len(ops))
		if got := impl.Scan(d, from, size, first, begin, width); !sameScanned(got, want) {
			t.Fatalf("round %d: width %d, %d sectors from %d: %d entries, used %d, life %d, not %d, %d, %d", round, width, size, from, len(got.Entries), got.Used, got.Life, len(want.Entries), want.Used, want.Life)
		}
	}
}

// P3: a region that is full to its last sector, at the disk's end, with entries of no byte, too.
func TestScanOfAFullRegion(t *testing.T) {
	for width := 1; width <= impl.MaxWidth; width++ {
		entries := []string{"", text(roomOf(width)), text(roomOf(width) + 1), "", "", text(2 * roomOf(width)), "z"}
		d, used := plainDisk(20, 0), 0
		for _, e := range entries {
			pages := impl.Cut(e, impl.MaxLife, impl.MaxNumber-8+used, width)
			d = laid(d, 11+used, pages...)
			used += len(pages)
		}
		want := impl.Scanned{Entries: entries, Used: 9, Life: impl.MaxLife}
		if got := impl.Scan(d, 11, 9, impl.MaxNumber-8, 1, width); used != 9 || !sameScanned(got, want) {
			t.Errorf("width %d: %+v", width, got)
		}
	}
}

// What goes on behind what: each row's pages have the Numbers from 10 on, the Life ahead of them is 3.
func TestWhatGoesOn(t *testing.T) {
	x, y := text(48), text(20)
	for _, c := range []struct {
		name  string
		pages []string
		want  impl.Scanned
	}{
		{"no page", nil, impl.Scanned{Life: 3}},
		{"one entry", []string{last(3, 10, y)}, impl.Scanned{Entries: []string{y}, Used: 1, Life: 3}},
		{"an entry of no byte", []string{last(3, 10, "")}, impl.Scanned{Entries: []string{""}, Used: 1, Life: 3}},
		{"two of no byte", []string{last(3, 10, ""), last(4, 11, "")}, impl.Scanned{Entries: []string{"", ""}, Used: 2, Life: 4}},
		{"parts of no byte", []string{part(3, 10, ""), part(3, 11, ""), last(3, 12, "")}, impl.Scanned{Entries: []string{""}, Used: 3, Life: 3}},
		{"short parts", []string{part(3, 10, "a"), part(3, 11, "b"), last(3, 12, "c"), last(3, 13, "d")}, impl.Scanned{Entries: []string{"abc", "d"}, Used: 4, Life: 3}},
		{"a life first", []string{life(3, 10), last(3, 11, y)}, impl.Scanned{Entries: []string{y}, Used: 2, Life: 3}},
		{"a life alone", []string{life(8, 10)}, impl.Scanned{Used: 1, Life: 8}},
		{"lives behind lives", []string{life(3, 10), life(3, 11), life(9, 12)}, impl.Scanned{Used: 3, Life: 9}},
		{"a life behind an entry", []string{part(3, 10, x), last(3, 11, y), life(4, 12), last(4, 13, "z")}, impl.Scanned{Entries: []string{x + y, "z"}, Used: 4, Life: 4}},
		{"a life behind an entry of its own life", []string{last(5, 10, y), life(5, 11)}, impl.Scanned{Entries: []string{y}, Used: 2, Life: 5}},
		{"a greater life without a life page", []string{last(3, 10, y), part(7, 11, x), last(7, 12, y)}, impl.Scanned{Entries: []string{y, x + y}, Used: 3, Life: 7}},
		{"the first page of a smaller life", []string{last(2, 10, y), last(3, 11, y)}, impl.Scanned{Life: 3}},
		{"the first page a life that is smaller", []string{life(2, 10), last(3, 11, y)}, impl.Scanned{Life: 3}},
		{"a smaller life", []string{last(5, 10, y), last(4, 11, y), last(5, 12, y)}, impl.Scanned{Entries: []string{y}, Used: 1, Life: 5}},
		{"a life page that is smaller", []string{last(5, 10, y), life(4, 11), last(5, 12, y)}, impl.Scanned{Entries: []string{y}, Used: 1, Life: 5}},
		{"smaller behind a life page", []string{life(5, 10), last(4, 11, y)}, impl.Scanned{Used: 1, Life: 5}},
		{"a part behind a part of a smaller life", []string{part(4, 10, x), part(3, 11, x), last(3, 12, y)}, impl.Scanned{Life: 3}},
		{"a last behind a part of a smaller life", []string{last(3, 10, y), part(5, 11, x), last(4, 12, y)}, impl.Scanned{Entries: []string{y}, Used: 1, Life: 3}},
		{"a last behind a part of a greater life", []string{part(3, 10, x), last(4, 11, y), last(4, 12, y)}, impl.Scanned{Life: 3}},
		{"a part behind a part of a greater life", []string{part(3, 10, x), part(4, 11, x), last(4, 12, y)}, impl.Scanned{Life: 3}},
		{"another life at the third page", []string{last(3, 10, y), part(3, 11, x), part(3, 12, x), last(4, 13, y)}, impl.Scanned{Entries: []string{y}, Used: 1, Life: 3}},
		{"a life where an entry is open", []string{last(3, 10, y), part(3, 11, x), life(3, 12), last(3, 13, y)}, impl.Scanned{Entries: []string{y}, Used: 1, Life: 3}},
		{"a greater life where an entry is open", []string{part(3, 10, x), life(4, 11), last(4, 12, y)}, impl.Scanned{Life: 3}},
		{"a life behind a part of no byte", []string{part(3, 10, ""), life(3, 11)}, impl.Scanned{Life: 3}},
		{"a root", []string{last(3, 10, y), root(3, 11), last(3, 12, y)}, impl.Scanned{Entries: []string{y}, Used: 1, Life: 3}},
		{"a root first", []string{root(3, 10), last(3, 11, y)}, impl.Scanned{Life: 3}},
		{"a root where an entry is open", []string{part(3, 10, x), root(3, 11), last(3, 12, y)}, impl.Scanned{Life: 3}},
		{"a number left out", []string{last(3, 10, y), last(3, 12, y), last(3, 12, y)}, impl.Scanned{Entries: []string{y}, Used: 1, Life: 3}},
		{"a number twice", []string{last(3, 10, y), last(3, 10, y), last(3, 12, y)}, impl.Scanned{Entries: []string{y}, Used: 1, Life: 3}},
		{"the first number too great", []string{last(3, 11, y), last(3, 12, y)}, impl.Scanned{Life: 3}},
		{"the first number too small", []string{last(3, 9, y), last(3, 10, y)}, impl.Scanned{Life: 3}},
		{"a number left out in an entry", []string{part(3, 10, x), last(3, 12, y)}, impl.Scanned{Life: 3}},
		{"a number left out ahead of a life", []string{last(3, 10, y), life(3, 12)}, impl.Scanned{Entries: []string{y}, Used: 1, Life: 3}},
		{"no page in the midst", []string{last(3, 10, y), filled(0), last(3, 12, y)}, impl.Scanned{Entries: []string{y}, Used: 1, Life: 3}},
		{"no page in the midst of an entry", []string{last(3, 10, y), part(3, 11, x), filled(0), last(3, 13, y)}, impl.Scanned{Entries: []string{y}, Used: 1, Life: 3}},
		{"an entry left open", []string{life(4, 10), last(5, 11, y), part(6, 12, x), part(6, 13, x)}, impl.Scanned{Entries: []string{y}, Used: 2, Life: 5}},
	} {
		d := laid(impl.NewDisk(12), 4, c.pages...)
		if got := impl.Scan(d, 4, 8, 10, 3, 8); !sameScanned(got, c.want) {
			t.Errorf("%s: %+v, not %+v", c.name, got, c.want)
		}
	}
}

func TestScanStopsAtTheEndOfItsRegion(t *testing.T) {
	x, y := text(48), text(20)
	d := laid(impl.NewDisk(8), 2, last(1, 5, y), part(1, 6, x), part(1, 7, x), last(1, 8, y), life(2, 9), last(2, 10, ""))
	one := impl.Scanned{Entries: []string{y}, Used: 1, Life: 1}
	two := impl.Scanned{Entries: []string{y, x + x + y}, Used: 4, Life: 1}
	for size, want := range []impl.Scanned{{Life: 1}, one, one, one, two, {Entries: two.Entries, Used: 5, Life: 2}, {Entries: []string{y, x + x + y, ""}, Used: 6, Life: 2}} {
		if got := impl.Scan(d, 2, size, 5, 1, 8); !sameScanned(got, want) {
			t.Errorf("size %d: %+v, not %+v", size, got, want)
		}
	}
}

func TestScanOfARegionThatIsThereOrNot(t *testing.T) {
	d := plainDisk(8, 3)
	for at := range d.Sectors {
		d.Sectors[at] = last(4, 10+at, "e")
	}
	d.Pending = nil
	for _, c := range []struct{ from, size int }{{0, 0}, {3, 0}, {7, 0}, {8, 0}} {
		if got := impl.Scan(d, c.from, c.size, 10, 2, 8); !sameScanned(got, impl.Scanned{Life: 2}) {
			t.Errorf("%d sectors from %d: %+v", c.size, c.from, got)
		}
	}
	for _, c := range []struct{ from, size int }{{0, 1}, {0, 8}, {7, 1}, {5, 3}} {
		if got := impl.Scan(d, c.from, c.size, 10+c.from, 2, 8); got.Used != c.size || len(got.Entries) != c.size || got.Life != 4 {
			t.Errorf("%d sectors from %d: %+v", c.size, c.from, got)
		}
	}
	for _, c := range []struct{ from, size int }{
		{0, 9}, {1, 8}, {7, 2}, {8, 1}, {9, 1}, {-1, 1}, {-1, 2}, {-1, 9}, {0, -1}, {3, -1}, {3, -3}, {8, -8}, {-8, 8},
		{0, math.MaxInt}, {1, math.MaxInt}, {7, math.MaxInt}, {math.MaxInt, 1}, {math.MaxInt, math.MaxInt}, {math.MinInt, math.MaxInt}, {math.MinInt, 8}, {math.MaxInt, math.MinInt}, {math.MinInt, math.MinInt}, {0, math.MinInt},
	} {
		if got := impl.Scan(d, c.from, c.size, 10+c.from, 2, 8); !isNothingScanned(got) {
			t.Errorf("%d sectors from %d: %+v", c.size, c.from, got)
		}
	}
}

func TestScanOfFirstsAndLivesThatNoPageHas(t *testing.T) {
	d := laid(impl.NewDisk(8), 0, last(4, 1, "a"), last(4, 2, "b"), last(4, 3, "c"))
	for _, first := range []int{0, -1, 2, 4, impl.MaxNumber, impl.MaxNumber + 1, 1<<32 + 1, math.MinInt, math.MaxInt} {
		if got := impl.Scan(d, 0, 8, first, 4, 8); !sameScanned(got, impl.Scanned{Life: 4}) {
			t.Errorf("first %d: %+v", first, got)
		}
	}
	for _, life := range []int{5, impl.MaxLife, impl.MaxLife + 1, 65536, math.MaxInt} {
		if got := impl.Scan(d, 0, 8, 1, life, 8); !sameScanned(got, impl.Scanned{Life: life}) {
			t.Errorf("life %d: %+v", life, got)
		}
	}
	// A life below all lives bars nothing, and is answered as it was given where there is no page.
	for _, life := range []int{0, -1, math.MinInt} {
		if got := impl.Scan(d, 0, 8, 1, life, 8); !sameScanned(got, impl.Scanned{Entries: []string{"a", "b", "c"}, Used: 3, Life: 4}) {
			t.Errorf("life %d: %+v", life, got)
		}
		if got := impl.Scan(d, 3, 5, 1, life, 8); !sameScanned(got, impl.Scanned{Life: life}) {
			t.Errorf("life %d: %+v", life, got)
		}
	}
}

func TestScanIsNothingForAnotherDiskOrWidth(t *testing.T) {
	for name, d := range brokenDisks() {
		for _, size := range []int{0, 1, len(d.Sectors)} {
			if got := impl.Scan(d, 0, size, 1, 7, 8); !isNothingScanned(got) {
				t.Errorf("%s, size %d: %+v", name, size, got)
			}
		}
	}
	d := laid(impl.NewDisk(8), 2, last(7, 1, "a"))
	for _, width := range noWidths {
		if got := impl.Scan(d, 2, 3, 1, 7, width); !isNothingScanned(got) {
			t.Errorf("width %d: %+v", width, got)
		}
	}
	for width := 1; width < 8; width++ {
		if got := impl.Scan(d, 2, 3, 1, 7, width); !sameScanned(got, impl.Scanned{Life: 7}) {
			t.Errorf("width %d for 8: %+v", width, got)
		}
	}
}

func TestScanReadsWhatIsPending(t *testing.T) {
	d := laid(impl.NewDisk(8), 2, last(1, 1, "a"), last(1, 2, "b"), last(1, 3, "c"))
	d.Pending = []impl.Write{{At: 3, Data: filled('x')}, {At: 5, Data: last(1, 4, "d")}, {At: 3, Data: last(1, 2, "new")}}
	if got := impl.Scan(d, 2, 6, 1, 1, 8); !sameScanned(got, impl.Scanned{Entries: []string{"a", "new", "c", "d"}, Used: 4, Life: 1}) {
		t.Errorf("%+v", got)
	}
	d.Pending = append(d.Pending, impl.Write{At: 4, Data: filled('x')})
	if got := impl.Scan(d, 2, 6, 1, 1, 8); !sameScanned(got, impl.Scanned{Entries: []string{"a", "new"}, Used: 2, Life: 1}) {
		t.Errorf("%+v", got)
	}
}

// scanModel says for each sector alone whether it goes on, and only then puts entries together.
func scanModel(d impl.Disk, from, size, first, life, width int) impl.Scanned {
	var pages []impl.Page
	for i := 0; i < size; i++ {
		p, _ := impl.ReadPage(impl.Sector(d, from+i), width)
		pages = append(pages, p)
	}
	fits := func(i int) bool {
		p, before := pages[i], impl.Page{Kind: impl.PageLife, Life: life}
		if i > 0 {
			before = pages[i-1]
		}
		if p.Number != first+i || p.Life < before.Life || p.Kind == impl.PageRoot {
			return false
		}
		return before.Kind != impl.PagePart || p.Kind != impl.PageLife && p.Life == before.Life
	}
	good := 0
	for good < size && fits(good) {
		good++
	}
	for good > 0 && pages[good-1].Kind == impl.PagePart {
		good--
	}
	out := impl.Scanned{Used: good, Life: life}
	entry := ""
	for _, p := range pages[:good] {
		out.Life = p.Life
		entry += p.Part
		if p.Kind == impl.PageLast {
			out.Entries = append(out.Entries, entry)
			entry = ""
		}
	}
	return out
}

// somePages are pages that mostly go on, with a little that does not.
func somePages(r *dice, count, first, width int) []string {
	var pages []string
	life := 1 + r.roll(3)
	for i := 0; i < count; i++ {
		p := impl.Page{Kind: 1 + r.roll(2), Life: life, Number: first + i, Part: text(r.roll(roomOf(width) + 1))}
		if r.roll(5) == 0 {
			p = impl.Page{Kind: impl.PageLife, Life: p.Life, Number: p.Number}
		}
		switch r.roll(30) {
		case 0:
			p.Life = 1 + r.roll(4)
		case 1:
			p.Number += 1 - 2*r.roll(2)
		case 2:
			p.Kind = impl.PageRoot
		}
		if p.Kind != impl.PagePart && r.roll(3) == 0 {
			life++
		}
		form := formOf(impl.Page{Kind: p.Kind, Life: p.Life, Number: max(p.Number, 1), Part: p.Part}, width)
		if r.roll(60) == 0 {
			form = form[1:] + "x"
		}
		pages = append(pages, form)
	}
	return pages
}

func TestScanIsTheModel(t *testing.T) {
	r := dice(6)
	used := 0
	for round := 0; round < 4000; round++ {
		width := 1 + r.roll(impl.MaxWidth)
		first := 1 + r.roll(3)
		pages := somePages(&r, 12, first, width)
		d := laid(impl.NewDisk(16), 3, pages...)
		for range r.roll(3) {
			at := r.roll(12)
			d.Pending = append(d.Pending, impl.Write{At: 3 + at, Data: somePages(&r, at+1, first, width)[at]})
		}
		size, life := r.roll(14), r.roll(4)
		want := scanModel(d, 3, size, first, life, width)
		if got := impl.Scan(d, 3, size, first, life, width); !sameScanned(got, want) {
			t.Fatalf("round %d: %+v, not %+v", round, got, want)
		}
		used += want.Used
	}
	if used < 4000 {
		t.Errorf("the rounds hold only %d pages that go on", used)
	}
}

func TestTheLogKeepsAndSharesNothing(t *testing.T) {
	d := copied(laid(impl.NewDisk(8), 2, part(1, 1, "a"), last(1, 2, "b"), last(1, 3, "c")))
	d.Pending = append(d.Pending[:0:0], impl.Write{At: 5, Data: last(1, 4, "d")}, impl.Write{At: -7, Data: "mark"})[:1]
	before := copied(d)
	first := impl.Scan(d, 2, 6, 1, 1, 8)
	for i := range first.Entries[:cap(first.Entries)] {
		first.Entries[:cap(first.Entries)][i] = "scribble"
	}
	if got := impl.Scan(d, 2, 6, 1, 1, 8); !sameScanned(got, impl.Scanned{Entries: []string{"ab", "c", "d"}, Used: 4, Life: 1}) {
		t.Errorf("%+v", got)
	}
	if !sameDisk(d, before) || !marked(d) {
		t.Error("the disk was changed")
	}
	cut := impl.Cut(text(100), 1, 1, 8)
	for i := range cut[:cap(cut)] {
		cut[:cap(cut)][i] = "scribble"
	}
	if got := impl.Cut(text(100), 1, 1, 8); !slices.Equal(got, cutModel(text(100), 1, 1, 8)) {
		t.Errorf("%q", got)
	}
	if strings.Contains(strings.Join(impl.Cut("", 1, 1, 8), ""), "scribble") {
		t.Error("kept")
	}
}
