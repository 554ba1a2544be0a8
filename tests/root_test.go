package tests

import (
	"encoding/binary"
	"math"
	"strings"
	"testing"

	"loop.example/kilnstone/impl"
)

// noRoot is the root of a disk in which none counts.
var noRoot = impl.Root{First: 1}

// rootPart writes the Part of a root's page; it does not ask whether there is such a root.
func rootPart(half byte, first uint32) string {
	return string(binary.BigEndian.AppendUint32([]byte{half}, first))
}

// rootForm is the form of a root's page, written a second way.
func rootForm(r impl.Root, width int) string {
	return formOf(impl.Page{Kind: impl.PageRoot, Life: r.Life, Number: r.Turn, Part: rootPart(byte(r.Half), uint32(r.First))}, width)
}

// rootModel looks for the root by writing down which page each sector would have to hold.
func rootModel(d impl.Disk, width int) impl.Root {
	best := noRoot
	for at := 1; at >= 0; at-- {
		s := impl.Sector(d, at)
		p, ok := impl.ReadPage(s, width)
		if !ok || p.Number%2 != at || len(p.Part) < 5 {
			continue
		}
		r := impl.Root{Turn: p.Number, Half: int(p.Part[0]), First: int(binary.BigEndian.Uint32([]byte(p.Part[1:5]))), Life: p.Life}
		if r.Half < 2 && r.First > 0 && r.First <= 999999000 && rootForm(r, width) == s && r.Turn >= best.Turn {
			best = r
		}
	}
	return best
}

// validRoots are roots at the edges of what has a page.
func validRoots() []impl.Root {
	var all []impl.Root
	for _, turn := range []int{1, 2, 255, 256, 999999999, impl.MaxNumber} {
		for _, half := range []int{0, 1} {
			for _, first := range []int{1, 2, 255, 256, 65536, 1 << 24, impl.MaxFirst - 1, impl.MaxFirst} {
				for _, life := range []int{1, 2, 256, impl.MaxLife} {
					all = append(all, impl.Root{Turn: turn, Half: half, First: first, Life: life})
				}
			}
		}
	}
	return all
}

// withRoots is a disk with these texts in the sectors of roots, the empty one leaving the sector as it is.
func withRoots(zero, one string) impl.Disk {
	d := impl.NewDisk(8)
	if zero != "" {
		d.Sectors[0] = zero
	}
	if one != "" {
		d.Sectors[1] = one
	}
	return d
}

// P6
func TestRootPageOfEveryRootThatHasOne(t *testing.T) {
	for width := 1; width <= impl.MaxWidth; width++ {
		for _, r := range validRoots() {
			form := impl.RootPage(r, width)
			if form != rootForm(r, width) {
				t.Fatalf("width %d, %+v: %q", width, r, form)
			}
			p, ok := impl.ReadPage(form, width)
			if !ok || p.Kind != impl.PageRoot || p.Life != r.Life || p.Number != r.Turn || len(p.Part) != 5 {
				t.Fatalf("width %d, %+v: read as %+v, %v", width, r, p, ok)
			}
			zero, one := form, ""
			if r.Turn%2 == 1 {
				zero, one = one, zero
			}
			if got := impl.FindRoot(withRoots(zero, one), width); got != r {
				t.Fatalf("width %d, %+v: found %+v", width, r, got)
			}
		}
	}
	if got, want := impl.RootPage(impl.Root{Turn: 3, Half: 1, First: 0x01020304, Life: 0x0506}, 8)[8:], "\x04\x05\x06\x00\x00\x00\x03\x05\x01\x01\x02\x03\x04"; !strings.HasPrefix(got, want) || strings.Trim(got[len(want):], "\x00") != "" {
		t.Errorf("%q", got)
	}
}

func TestRootPageOfNoRoot(t *testing.T) {
	good := impl.Root{Turn: 1, Half: 1, First: 1, Life: 1}
	var broken []impl.Root
	for _, turn := range []int{0, -1, -2, impl.MaxNumber + 1, 1<<32 + 1, math.MinInt, math.MaxInt} {
		broken = append(broken, impl.Root{Turn: turn, Half: good.Half, First: good.First, Life: good.Life})
	}
	for _, half := range []int{-1, 2, 3, 256, 257, math.MinInt, math.MaxInt} {
		broken = append(broken, impl.Root{Turn: good.Turn, Half: half, First: good.First, Life: good.Life})
	}
	for _, first := range []int{0, -1, impl.MaxFirst + 1, impl.MaxNumber, 1<<32 + 1, math.MinInt, math.MaxInt} {
		broken = append(broken, impl.Root{Turn: good.Turn, Half: good.Half, First: first, Life: good.Life})
	}
	for _, life := range []int{0, -1, impl.MaxLife + 1, 65536 + 1, math.MinInt, math.MaxInt} {
		broken = append(broken, impl.Root{Turn: good.Turn, Half: good.Half, First: good.First, Life: life})
	}
	for width := 1; width <= impl.MaxWidth; width++ {
		if impl.RootPage(good, width) == "" || impl.RootPage(impl.Root{}, width) != "" || impl.RootPage(noRoot, width) != "" {
			t.Errorf("width %d", width)
		}
		for _, r := range broken {
			if form := impl.RootPage(r, width); form != "" {
				t.Errorf("width %d, %+v: %q", width, r, form)
			}
		}
	}
	for _, width := range noWidths {
		if form := impl.RootPage(good, width); form != "" {
			t.Errorf("width %d: %q", width, form)
		}
	}
}

// P6
func TestFindRootIsTheOneWithTheGreaterTurn(t *testing.T) {
	at := func(turn int) (impl.Root, string) {
		r := impl.Root{Turn: turn, Half: turn / 2 % 2, First: 7*turn%1000 + 1, Life: turn%100 + 1}
		return r, rootForm(r, 8)
	}
	for _, zero := range []int{0, 2, 4, 6, 256, 65536, 1 << 24, impl.MaxNumber} {
		for _, one := range []int{0, 1, 3, 5, 7, 255, 257, 65535, 65537, impl.MaxNumber - 1} {
			want, forms := noRoot, [2]string{}
			for i, turn := range []int{zero, one} {
				if turn == 0 {
					continue
				}
				r, form := at(turn)
				forms[i] = form
				if turn > want.Turn {
					want = r
				}
			}
			if got := impl.FindRoot(withRoots(forms[0], forms[1]), 8); got != want {
				t.Errorf("turns %d and %d: %+v", zero, one, got)
			}
		}
	}
}

// noRoots are pages, each right for the sector, that are no root's.
func noRoots(turn int) map[string]string {
	page := func(kind int, part string) string {
		return formOf(impl.Page{Kind: kind, Life: 1, Number: turn, Part: part}, 8)
	}
	good := rootPart(1, 9)
	form := page(impl.PageRoot, good)
	return map[string]string{
		"zeros":              filled(0),
		"letters":            filled('x'),
		"a torn page":        form[:40] + filled('x')[40:],
		"a wrong sum":        "x" + form[1:],
		"a PagePart":         page(impl.PagePart, good),
		"a PageLast":         page(impl.PageLast, good),
		"a PageLife":         page(impl.PageLife, ""),
		"no part":            page(impl.PageRoot, ""),
		"a part of 1":        page(impl.PageRoot, good[:1]),
		"a part of 4":        page(impl.PageRoot, good[:4]),
		"a part of 6":        page(impl.PageRoot, good+"\x00"),
		"a part of all":      page(impl.PageRoot, good+strings.Repeat("\x00", 43)),
		"half 2":             page(impl.PageRoot, rootPart(2, 9)),
		"half 255":           page(impl.PageRoot, rootPart(255, 9)),
		"first 0":            page(impl.PageRoot, rootPart(1, 0)),
		"first past its end": page(impl.PageRoot, rootPart(1, impl.MaxFirst+1)),
		"first of all ones":  page(impl.PageRoot, rootPart(1, math.MaxUint32)),
		"the other sector":   formOf(impl.Page{Kind: impl.PageRoot, Life: 1, Number: turn + 1, Part: good}, 8),
		"life 0":             seal(body(4, 0, uint32(turn), 5, good, 8), 8),
		"life past its end":  seal(body(4, 60001, uint32(turn), 5, good, 8), 8),
		"another width":      formOf(impl.Page{Kind: impl.PageRoot, Life: 1, Number: turn, Part: good}, 7),
	}
}

func TestFindRootPassesOverWhatIsNoRoot(t *testing.T) {
	low := impl.Root{Turn: 2, Half: 1, First: 5, Life: 3}
	odd := impl.Root{Turn: 3, Half: 0, First: 6, Life: 4}
	for name, zero := range noRoots(100) {
		if got := impl.FindRoot(withRoots(zero, ""), 8); got != noRoot {
			t.Errorf("%s in sector 0: %+v", name, got)
		}
		if got := impl.FindRoot(withRoots(zero, rootForm(odd, 8)), 8); got != odd {
			t.Errorf("%s in sector 0 beside a root: %+v", name, got)
		}
		for also, one := range noRoots(101) {
			if got := impl.FindRoot(withRoots(zero, one), 8); got != noRoot {
				t.Errorf("%s and %s: %+v", name, also, got)
			}
		}
	}
	for name, one := range noRoots(101) {
		if got := impl.FindRoot(withRoots("", one), 8); got != noRoot {
			t.Errorf("%s in sector 1: %+v", name, got)
		}
		if got := impl.FindRoot(withRoots(rootForm(low, 8), one), 8); got != low {
			t.Errorf("%s in sector 1 beside a root: %+v", name, got)
		}
	}
	d := withRoots(seal(body(4, 1, 0, 5, rootPart(0, 1), 8), 8), "")
	if got := impl.FindRoot(d, 8); got != noRoot {
		t.Errorf("turn 0: %+v", got)
	}
	d = withRoots("", seal(body(4, 1, impl.MaxNumber+1, 5, rootPart(0, 1), 8), 8))
	if got := impl.FindRoot(d, 8); got != noRoot {
		t.Errorf("a turn past its end: %+v", got)
	}
}

func TestFindRootLooksIntoNoOtherSector(t *testing.T) {
	for _, sectors := range []int{8, 9, 40, 200} {
		d := impl.NewDisk(sectors)
		for at := 2; at < sectors; at++ {
			d.Sectors[at] = rootForm(impl.Root{Turn: at, Half: 1, First: 5, Life: 3}, 8)
		}
		if got := impl.FindRoot(d, 8); got != noRoot {
			t.Errorf("%d sectors: %+v", sectors, got)
		}
	}
}

func TestFindRootReadsWhatIsPending(t *testing.T) {
	two := impl.Root{Turn: 2, Half: 1, First: 5, Life: 3}
	three := impl.Root{Turn: 3, Half: 0, First: 8, Life: 3}
	four := impl.Root{Turn: 4, Half: 1, First: 11, Life: 3}
	write := func(at int, data string) impl.Write { return impl.Write{At: at, Data: data} }
	for name, c := range map[string]struct {
		safe    impl.Disk
		pending []impl.Write
		want    impl.Root
	}{
		"alone in sector 0":    {withRoots("", ""), []impl.Write{write(0, rootForm(two, 8))}, two},
		"alone in sector 1":    {withRoots("", ""), []impl.Write{write(1, rootForm(three, 8))}, three},
		"the greater pending":  {withRoots(rootForm(two, 8), ""), []impl.Write{write(1, rootForm(three, 8))}, three},
		"the lesser pending":   {withRoots("", rootForm(three, 8)), []impl.Write{write(0, rootForm(two, 8))}, three},
		"over the older":       {withRoots(rootForm(two, 8), rootForm(three, 8)), []impl.Write{write(0, rootForm(four, 8))}, four},
		"the older over it":    {withRoots(rootForm(four, 8), rootForm(three, 8)), []impl.Write{write(0, rootForm(two, 8))}, three},
		"nothing over it":      {withRoots("", rootForm(three, 8)), []impl.Write{write(1, filled(0))}, noRoot},
		"the last of pending":  {withRoots("", ""), []impl.Write{write(0, rootForm(four, 8)), write(1, rootForm(three, 8)), write(0, rootForm(two, 8))}, three},
		"pending where no one": {withRoots("", ""), []impl.Write{write(1, rootForm(two, 8)), write(2, rootForm(four, 8))}, noRoot},
	} {
		c.safe.Pending = c.pending
		if got := impl.FindRoot(c.safe, 8); got != c.want {
			t.Errorf("%s: %+v", name, got)
		}
	}
}

// P6: each page is laid safely or is pending, with a Turn that is greater by one or by more.
func TestFindRootBehindAGreaterTurn(t *testing.T) {
	r := dice(11)
	for round := 0; round < 300; round++ {
		width := 1 + r.roll(impl.MaxWidth)
		d := impl.NewDisk(8 + r.roll(20))
		turn := r.roll(3) * r.roll(1000000)
		for step := 0; step < 12; step++ {
			turn += 1 + r.roll(2)*r.roll(3)
			root := impl.Root{Turn: turn, Half: r.roll(2), First: 1 + r.roll(impl.MaxFirst), Life: 1 + r.roll(impl.MaxLife)}
			ops := []impl.Op{{At: turn % 2, Data: impl.RootPage(root, width)}, {Sync: true}}
			d = impl.Perform(d, ops, 1+r.roll(2))
			if got := impl.FindRoot(d, width); got != root || got != rootModel(d, width) {
				t.Fatalf("round %d, turn %d: %+v, not %+v", round, turn, got, root)
			}
		}
	}
}

func TestFindRootIsNothingForAnotherDiskOrWidth(t *testing.T) {
	good := rootForm(impl.Root{Turn: 2, Half: 1, First: 5, Life: 3}, 8)
	for name, d := range brokenDisks() {
		if len(d.Sectors) > 0 && name != "long sector" {
			d.Sectors[0] = good
		}
		for width := 0; width <= 9; width++ {
			if got := impl.FindRoot(d, width); got != (impl.Root{}) {
				t.Errorf("%s, width %d: %+v", name, width, got)
			}
		}
	}
	for _, width := range noWidths {
		for _, d := range []impl.Disk{withRoots(good, ""), impl.NewDisk(200)} {
			if got := impl.FindRoot(d, width); got != (impl.Root{}) {
				t.Errorf("width %d: %+v", width, got)
			}
		}
	}
	for width := 1; width <= impl.MaxWidth; width++ {
		if got := impl.FindRoot(impl.NewDisk(8), width); got != noRoot {
			t.Errorf("width %d: %+v", width, got)
		}
	}
}

func TestFindRootChangesNothing(t *testing.T) {
	d := copied(withRoots(rootForm(impl.Root{Turn: 2, Half: 1, First: 5, Life: 3}, 8), ""))
	d.Pending = append(d.Pending[:0:0], impl.Write{At: 1, Data: filled('x')}, impl.Write{At: -7, Data: "mark"})[:1]
	before := copied(d)
	impl.FindRoot(d, 8)
	if !sameDisk(d, before) || !marked(d) {
		t.Error("the disk was changed")
	}
}

func TestHalves(t *testing.T) {
	for sectors := -10; sectors < 300; sectors++ {
		want := 0
		if sectors >= 8 && sectors <= 200 {
			for 2+2*(want+1) <= sectors {
				want++
			}
		}
		if got := impl.Halves(sectors); got != want {
			t.Errorf("%d sectors: %d, not %d", sectors, got, want)
		}
	}
	for sectors, want := range map[int]int{8: 3, 9: 3, 10: 4, 199: 98, 200: 99, 7: 0, 201: 0, 0: 0, 2: 0, math.MinInt: 0, math.MaxInt: 0} {
		if got := impl.Halves(sectors); got != want {
			t.Errorf("%d sectors: %d, not %d", sectors, got, want)
		}
	}
}
