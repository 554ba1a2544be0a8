package tests

import (
	"math"
	"slices"
	"testing"

	"loop.example/kilnstone/impl"
)

func put(key, value string) []impl.Change {
	return []impl.Change{{Key: key, Value: value}}
}

func one(key, value string) impl.State {
	return state(impl.Pair{Key: key, Value: value})
}

func sameStore(a, b impl.Store) bool {
	return a.Width == b.Width && a.Sectors == b.Sectors && a.Life == b.Life && a.Root == b.Root && a.Used == b.Used && a.Loose == b.Loose && sameState(a.State, b.State)
}

func sameDone(a, b impl.Done) bool {
	return a.Code == b.Code && sameStore(a.Store, b.Store) && slices.Equal(a.Ops, b.Ops)
}

// hasCode asks for a code, and for nothing beside it.
func hasCode(t *testing.T, name string, got impl.Done, code int) {
	t.Helper()
	if got.Code != code {
		t.Errorf("%s: code %d, not %d", name, got.Code, code)
	}
	if code != 0 && !sameDone(got, impl.Done{Code: got.Code}) {
		t.Errorf("%s: %+v beside the code", name, got)
	}
}

// done asks for code 0 and gives the disk behind all of the ops.
func done(t *testing.T, d impl.Disk, got impl.Done) impl.Disk {
	t.Helper()
	if got.Code != 0 || !impl.ValidStore(got.Store) {
		t.Fatalf("%+v", got)
	}
	return impl.Perform(d, got.Ops, len(got.Ops))
}

// roomy is a state whose snapshot has just so many pages, the last batch's pages full if brim.
func roomy(pages, width int, brim bool) impl.State {
	s := state(pairs(min(pages, impl.MaxPairs), 0)...)
	for i := len(s.Pairs) - 1; i >= 0; i-- {
		for size := 1; size <= impl.MaxValue; size++ {
			if !brim && roomModel(s, width) == pages {
				return s
			}
			before := s.Pairs[i].Value
			s.Pairs[i].Value = text(size)
			if roomModel(s, width) > pages {
				s.Pairs[i].Value = before
				return s
			}
		}
	}
	return s
}

// roomModel counts the pages of a state's snapshot by the sizes of its pairs alone.
func roomModel(s impl.State, width int) int {
	pages := 0
	for some := range slices.Chunk(s.Pairs, 20) {
		size := 0
		for _, p := range some {
			size += 3 + len(p.Key) + len(p.Value)
		}
		pages += (size + roomOf(width) - 1) / roomOf(width)
	}
	return pages
}

// snapshotModel are the pages of a state, with this life and from this number on.
func snapshotModel(s impl.State, life, number, width int) []string {
	var forms []string
	for from := 0; from < len(s.Pairs); from += 20 {
		var b []impl.Change
		for _, p := range s.Pairs[from:min(from+20, len(s.Pairs))] {
			b = append(b, impl.Change{Key: p.Key, Value: p.Value})
		}
		forms = append(forms, cutModel(batchForm(b), life, number+len(forms), width)...)
	}
	return forms
}

// tooRoomy says whether a state, behind the page of a life, has no room in a half.
func tooRoomy(s impl.State, sectors, width int) bool {
	return 1+roomModel(s, width) > (sectors-2)/2
}

// moveModel is what moving comes to, all its ops written down in one row.
func moveModel(s impl.Store) impl.Done {
	half := (s.Sectors - 2) / 2
	first := s.Root.First + half
	if s.Root.Turn >= 1000000000 || first > 999999000 {
		return impl.Done{Code: 4}
	}
	at := []int{2 + half, 2}[s.Root.Half]
	pages := append([]string{formOf(impl.Page{Kind: impl.PageLife, Life: s.Life, Number: first}, s.Width)}, snapshotModel(s.State, s.Life, first+1, s.Width)...)
	var ops []impl.Op
	for i, p := range pages {
		ops = append(ops, impl.Op{At: at + i, Data: p})
	}
	s.Root = impl.Root{Turn: s.Root.Turn + 1, Half: 1 - s.Root.Half, First: first, Life: s.Life}
	ops = append(ops, impl.Op{Sync: true}, impl.Op{At: s.Root.Turn % 2, Data: rootForm(s.Root, s.Width)}, impl.Op{Sync: true})
	s.Used, s.Loose = len(pages), 0
	return impl.Done{Store: s, Ops: ops}
}

// openModel opens a valid disk with a width.
func openModel(d impl.Disk, width int) impl.Done {
	root := rootModel(d, width)
	half := (len(d.Sectors) - 2) / 2
	log := scanModel(d, 2+root.Half*half, half, root.First, root.Life, width)
	s := impl.State{}
	for _, entry := range log.Entries {
		b, ok := impl.ReadBatch(entry)
		after, code := applyModel(s, b)
		if !ok || code != 0 {
			return impl.Done{Code: 2}
		}
		s = after
	}
	life := log.Life + 1
	if life > 60000 {
		return impl.Done{Code: 3}
	}
	if tooRoomy(s, len(d.Sectors), width) {
		return impl.Done{Code: 4}
	}
	store := impl.Store{Width: width, Sectors: len(d.Sectors), Life: life, Root: root, Used: log.Used, State: s}
	if log.Used == half {
		return moveModel(store)
	}
	page := formOf(impl.Page{Kind: impl.PageLife, Life: life, Number: root.First + log.Used}, width)
	store.Used++
	return impl.Done{Store: store, Ops: []impl.Op{{At: 2 + root.Half*half + log.Used, Data: page}, {Sync: true}}}
}

// commitModel commits a valid batch to a valid store.
func commitModel(s impl.Store, b []impl.Change) impl.Done {
	after, code := applyModel(s.State, b)
	if code != 0 {
		return impl.Done{Code: 2}
	}
	if tooRoomy(after, s.Sectors, s.Width) {
		return impl.Done{Code: 3}
	}
	half := (s.Sectors - 2) / 2
	pages := cutModel(batchForm(b), s.Life, s.Root.First+s.Used, s.Width)
	if s.Used+len(pages) > half {
		return impl.Done{Code: 4}
	}
	var ops []impl.Op
	for i, p := range pages {
		ops = append(ops, impl.Op{At: 2 + s.Root.Half*half + s.Used + i, Data: p})
	}
	s.State = after
	s.Used, s.Loose = s.Used+len(pages), s.Loose+len(pages)
	return impl.Done{Store: s, Ops: ops}
}

func validStores() map[string]impl.Store {
	top := impl.Root{Turn: impl.MaxNumber, Half: 1, First: impl.MaxFirst, Life: impl.MaxLife}
	return map[string]impl.Store{
		"the least":             {Width: 1, Sectors: 8, Life: 1, Root: noRoot},
		"the most":              {Width: 8, Sectors: 200, Life: impl.MaxLife, Root: top, Used: 99, Loose: 99, State: roomy(98, 8, true)},
		"100 pairs":             {Width: 8, Sectors: 200, Life: 2, Root: noRoot, Used: 1, State: state(pairs(100, 1)...)},
		"all used, none loose":  {Width: 8, Sectors: 8, Life: 5, Root: noRoot, Used: 3},
		"all used and loose":    {Width: 8, Sectors: 9, Life: 5, Root: noRoot, Used: 3, Loose: 3},
		"room of all but one":   {Width: 8, Sectors: 8, Life: 5, Root: noRoot, Used: 1, State: one("a", text(92))},
		"and of an odd disk":    {Width: 8, Sectors: 11, Life: 5, Root: noRoot, Used: 1, State: roomy(3, 8, true)},
		"a life below a root's": {Width: 3, Sectors: 20, Life: 4, Root: impl.Root{Turn: 8, Half: 1, First: 77, Life: 9}, Used: 4, Loose: 2, State: one("a", "b")},
		"a root with no life":   {Width: 3, Sectors: 20, Life: 4, Root: impl.Root{Turn: 8, Half: 1, First: 77}, Used: 4, Loose: 2, State: one("a", "b")},
		"a root of no turn":     {Width: 3, Sectors: 20, Life: 4, Root: impl.Root{Half: 1, First: 77, Life: 3}, Used: 4, Loose: 2, State: one("a", "b")},
	}
}

// brokenStores are stores that each miss being valid by one thing.
func brokenStores() map[string]impl.Store {
	all := map[string]impl.Store{"nothing": {}}
	spoil := func(name string, by func(s *impl.Store)) {
		s := impl.Store{Width: 8, Sectors: 9, Life: 5, Root: impl.Root{Turn: 4, Half: 1, First: 77, Life: 3}, Used: 2, Loose: 1, State: one("a", "b")}
		by(&s)
		all[name] = s
	}
	number := func(name string, at func(s *impl.Store) *int, bad ...int) {
		for _, n := range bad {
			spoil(name+" "+text(len(all)), func(s *impl.Store) { *at(s) = n })
		}
	}
	number("width", func(s *impl.Store) *int { return &s.Width }, noWidths...)
	number("sectors", func(s *impl.Store) *int { return &s.Sectors }, 7, 0, -1, 201, math.MinInt, math.MaxInt)
	number("life", func(s *impl.Store) *int { return &s.Life }, 0, -1, impl.MaxLife+1, math.MinInt, math.MaxInt)
	number("turn", func(s *impl.Store) *int { return &s.Root.Turn }, -1, impl.MaxNumber+1, math.MinInt, math.MaxInt)
	number("half", func(s *impl.Store) *int { return &s.Root.Half }, -1, 2, math.MinInt, math.MaxInt)
	number("first", func(s *impl.Store) *int { return &s.Root.First }, 0, -1, impl.MaxFirst+1, math.MinInt, math.MaxInt)
	number("root's life", func(s *impl.Store) *int { return &s.Root.Life }, -1, impl.MaxLife+1, math.MinInt, math.MaxInt)
	number("used", func(s *impl.Store) *int { return &s.Used }, -1, 0, 4, 5, math.MinInt, math.MaxInt)
	number("loose", func(s *impl.Store) *int { return &s.Loose }, -1, 3, math.MinInt, math.MaxInt)
	spoil("used and loose one past the half", func(s *impl.Store) { s.Used, s.Loose = 4, 4 })
	for name, broken := range brokenStates() {
		spoil(name, func(s *impl.Store) { s.Sectors, s.State = 200, broken })
	}
	spoil("room of all", func(s *impl.Store) { s.State = one("a", text(93)) })
	spoil("room of all of 200", func(s *impl.Store) { s.Sectors, s.State = 200, roomy(99, 8, false) })
	return all
}

func TestValidStore(t *testing.T) {
	for name, s := range validStores() {
		if !impl.ValidStore(s) {
			t.Errorf("%s: not valid", name)
		}
	}
	for name, s := range brokenStores() {
		if impl.ValidStore(s) {
			t.Errorf("%q: valid: %+v", name, s)
		}
	}
	for sectors := 8; sectors <= 200; sectors++ {
		half := (sectors - 2) / 2
		for used, want := range map[int]bool{0: true, 1: true, half - 1: true, half: true, half + 1: false} {
			if got := impl.ValidStore(impl.Store{Width: 8, Sectors: sectors, Life: 1, Root: noRoot, Used: used}); got != want {
				t.Errorf("%d sectors, %d used: %v", sectors, used, got)
			}
		}
		for pages, want := range map[int]bool{1: true, half - 1: true, half: false} {
			for _, brim := range []bool{false, true} {
				if got := impl.ValidStore(impl.Store{Width: 8, Sectors: sectors, Life: 1, Root: noRoot, State: roomy(pages, 8, brim)}); got != want {
					t.Errorf("%d sectors, room %d: %v", sectors, pages, got)
				}
			}
		}
	}
}

func TestOpenOfANewDisk(t *testing.T) {
	for _, sectors := range []int{8, 9, 40, 200} {
		for width := 1; width <= impl.MaxWidth; width++ {
			want := impl.Done{
				Store: impl.Store{Width: width, Sectors: sectors, Life: 1, Root: noRoot, Used: 1},
				Ops:   []impl.Op{{At: 2, Data: formOf(impl.Page{Kind: impl.PageLife, Life: 1, Number: 1}, width)}, {Sync: true}},
			}
			if got := impl.Open(impl.NewDisk(sectors), width); !sameDone(got, want) {
				t.Errorf("%d sectors, width %d: %+v", sectors, width, got)
			}
		}
	}
}

func TestOpenOfWhatIsNotValid(t *testing.T) {
	for name, d := range brokenDisks() {
		for width := 0; width <= 9; width++ {
			hasCode(t, name, impl.Open(d, width), 1)
		}
	}
	// An entry that is no batch, and a life with none behind it: still it is code 1.
	bad := laid(impl.NewDisk(8), 2, last(impl.MaxLife, 1, "none"))
	for _, width := range noWidths {
		hasCode(t, "no width", impl.Open(impl.NewDisk(8), width), 1)
		hasCode(t, "no width, no batch", impl.Open(bad, width), 1)
	}
}

func TestOpenOfEntriesThatCannotBeApplied(t *testing.T) {
	a, b := batchForm(put("a", "1")), batchForm(put("b", "2"))
	for name, c := range map[string]struct {
		code  int
		pages []string
	}{
		"no batch":               {2, []string{last(1, 1, "none")}},
		"an empty entry":         {2, []string{last(1, 1, "")}},
		"behind a batch":         {2, []string{life(1, 1), last(1, 2, a), last(1, 3, a+"\x00")}},
		"ahead of a batch":       {2, []string{life(1, 1), last(1, 2, "\x02"), last(1, 3, a)}},
		"at the half's end":      {2, []string{life(1, 1), last(1, 2, a), last(1, 3, ""), last(1, 4, a)}},
		"of two pages":           {2, []string{life(1, 1), part(1, 2, a), last(1, 3, "x")}},
		"a batch of two pages":   {0, []string{life(1, 1), part(1, 2, a), last(1, 3, b)}},
		"not whole":              {0, []string{life(1, 1), last(1, 2, a), part(1, 3, "none")}},
		"another number":         {0, []string{life(1, 1), last(1, 2, a), last(1, 4, "none")}},
		"a lesser life":          {0, []string{life(2, 1), last(2, 2, a), last(1, 3, "none")}},
		"in the other half":      {0, []string{life(1, 1), last(1, 2, a), filled(0), filled(0), last(1, 5, "none")}},
		"the greatest life, too": {2, []string{life(impl.MaxLife, 1), last(impl.MaxLife, 2, "none")}},
	} {
		got := impl.Open(laid(impl.NewDisk(10), 2, c.pages...), 8)
		hasCode(t, name, got, c.code)
		if c.code == 0 && (len(got.Store.State.Pairs) == 0 || got.Store.State.Pairs[0] != impl.Pair{Key: "a", Value: "1"}) {
			t.Errorf("%s: %+v", name, got.Store.State)
		}
	}
	none := laid(impl.NewDisk(10), 6, last(1, 9, "none"))
	none.Sectors[1] = rootForm(impl.Root{Turn: 1, Half: 1, First: 9, Life: 1}, 8)
	hasCode(t, "in the half of the root", impl.Open(none, 8), 2)
}

// logOf lays batches down behind each other, from the first number of half 0 on.
func logOf(sectors, width int, batches ...[]impl.Change) impl.Disk {
	d := impl.NewDisk(sectors)
	used := 0
	for _, b := range batches {
		pages := cutModel(batchForm(b), 1, 1+used, width)
		d = laid(d, 2+used, pages...)
		used += len(pages)
	}
	return d
}

func TestOpenPastMaxPairs(t *testing.T) {
	keys := func(from, count int) []impl.Change {
		var b []impl.Change
		for i := range count {
			b = append(b, impl.Change{Key: string([]byte{byte(from + i)})})
		}
		return b
	}
	batches := [][]impl.Change{keys(0, 20), keys(20, 20), keys(40, 20), keys(60, 20), keys(80, 20)}
	full := impl.Open(logOf(60, 8, batches...), 8)
	if full.Code != 0 || len(full.Store.State.Pairs) != 100 {
		t.Errorf("100 pairs: %d", full.Code)
	}
	hasCode(t, "101", impl.Open(logOf(60, 8, append(batches, keys(100, 1))...), 8), 2)
	hasCode(t, "101, then 100", impl.Open(logOf(60, 8, append(batches, keys(100, 1), []impl.Change{{Key: "\x00", Gone: true}})...), 8), 2)
	hasCode(t, "never more than 100", impl.Open(logOf(60, 8, append(batches, append(keys(100, 1), impl.Change{Key: "\x00", Gone: true}))...), 8), 0)
}

func TestOpenBeginsTheNextLife(t *testing.T) {
	a := batchForm(put("a", "1"))
	top := impl.MaxLife
	for name, c := range map[string]struct {
		life, used int
		pages      []string
	}{
		"nothing there":       {1, 1, nil},
		"behind a life":       {8, 2, []string{life(7, 1)}},
		"behind two":          {10, 3, []string{life(7, 1), life(9, 2)}},
		"behind a batch":      {8, 3, []string{life(7, 1), last(7, 2, a)}},
		"a batch's life":      {9, 2, []string{last(8, 1, a)}},
		"one sector is left":  {8, 4, []string{life(7, 1), last(7, 2, a), last(7, 3, a)}},
		"an entry is open":    {8, 3, []string{life(7, 1), last(7, 2, a), part(7, 3, a)}},
		"open in all of it":   {1, 1, []string{part(7, 1, a), part(7, 2, a), part(7, 3, a), part(7, 4, a)}},
		"open at the end":     {8, 4, []string{life(7, 1), last(7, 2, a), last(7, 3, a), part(7, 4, a)}},
		"the last life":       {top, 2, []string{life(top-1, 1)}},
		"the last, a batch's": {top, 2, []string{last(top-1, 1, a)}},
	} {
		d := laid(impl.NewDisk(11), 2, c.pages...)
		got := impl.Open(d, 8)
		want := impl.Store{Width: 8, Sectors: 11, Life: c.life, Root: noRoot, Used: c.used, State: got.Store.State}
		ops := []impl.Op{{At: 1 + c.used, Data: life(c.life, c.used)}, {Sync: true}}
		if !sameDone(got, impl.Done{Store: want, Ops: ops}) || !sameDone(got, openModel(d, 8)) {
			t.Errorf("%s: %+v", name, got)
		}
	}
}

// withRoot is a new disk with a root in its sector.
func withRoot(sectors int, r impl.Root) impl.Disk {
	return laid(impl.NewDisk(sectors), r.Turn%2, rootForm(r, 8))
}

func TestOpenBehindTheLastLife(t *testing.T) {
	top := impl.MaxLife
	great := cutModel(batchForm(put("a", text(93))), top, 1, 8)
	for name, d := range map[string]impl.Disk{
		"a life":                   laid(impl.NewDisk(8), 2, life(top, 1)),
		"a batch":                  laid(impl.NewDisk(8), 2, last(top, 1, batchForm(put("a", "1")))),
		"the half is full":         laid(impl.NewDisk(8), 2, life(top, 1), life(top, 2), life(top, 3)),
		"a root's life":            withRoot(8, impl.Root{Turn: 1, Half: 1, First: 1, Life: top}),
		"too much room, too":       laid(impl.NewDisk(8), 2, great...),
		"it can't be moved either": laid(withRoot(8, impl.Root{Turn: impl.MaxNumber, First: impl.MaxFirst, Life: top}), 2, life(top, impl.MaxFirst), life(top, impl.MaxFirst+1), life(top, impl.MaxFirst+2)),
	} {
		hasCode(t, name, impl.Open(d, 8), 3)
	}
	low := withRoot(8, impl.Root{Turn: 1, Half: 1, First: 1, Life: top - 1})
	if got := impl.Open(low, 8); got.Code != 0 || got.Store.Life != top || got.Ops[0].At != 5 {
		t.Errorf("the last life: %+v", got)
	}
}

// A half without the page of a life holds one page more than a state may have.
func TestOpenOfAStateWithTooMuchRoom(t *testing.T) {
	for _, sectors := range []int{8, 9, 20, 41} {
		half := (sectors - 2) / 2
		for _, width := range []int{1, 4, 8} {
			for pages, code := range map[int]int{1: 0, half - 2: 0, half - 1: 0, half: 4} {
				for _, brim := range []bool{false, true} {
					s := roomy(pages, width, brim)
					d := laid(impl.NewDisk(sectors), 2, snapshotModel(s, 1, 1, width)...)
					got := impl.Open(d, width)
					hasCode(t, "room", got, code)
					if code == 0 && (!sameState(got.Store.State, s) || got.Store.Used != pages+1 || got.Store.Life != 2) {
						t.Errorf("%d sectors, room %d: %+v", sectors, pages, got.Store)
					}
				}
			}
		}
	}
}

// Two full batches of two pages each, of which the snapshot makes two of three and two: one sector is left, and it is too much.
func TestOpenOfAStateWhoseSnapshotIsLongerThanItsLog(t *testing.T) {
	var low, high []impl.Change
	for i := range 20 {
		low = append(low, impl.Change{Key: string([]byte{byte(2 * i)})})
		high = append(high, impl.Change{Key: string([]byte{byte(2*i + 1)})})
	}
	low[0].Value, high[19].Value = text(16), text(16)
	if got := impl.Open(logOf(12, 8, low, high), 8); got.Code != 0 || got.Store.Used != 5 {
		t.Fatalf("as long as its log: %+v", got)
	}
	low[0].Value, low[1].Value = "", text(16)
	high[19].Value, high[0].Value = "", text(16)
	got := impl.Open(logOf(12, 8, low, high), 8)
	if s := impl.Room(impl.Open(logOf(40, 8, low, high), 8).Store.State, 8); s != 5 {
		t.Fatalf("room %d", s)
	}
	hasCode(t, "longer", got, 4)
	hasCode(t, "longer, a half of one more", impl.Open(logOf(14, 8, low, high), 8), 0)
}

func TestOpenWhereNoSectorIsLeft(t *testing.T) {
	a := batchForm(put("a", "1"))
	great := cutModel(batchForm(put("b", text(92))), 5, 2, 8)
	for name, c := range map[string]struct {
		sectors int
		root    impl.Root
		pages   []string
		want    impl.State
	}{
		"no root yet":        {8, noRoot, []string{life(5, 1), last(5, 2, a), life(6, 3)}, one("a", "1")},
		"an empty state":     {9, noRoot, []string{life(4, 1), life(5, 2), life(6, 3)}, impl.State{}},
		"room of all of it":  {8, noRoot, []string{life(5, 1), great[0], great[1]}, one("b", text(92))},
		"from half 1":        {8, impl.Root{Turn: 1, Half: 1, First: 4, Life: 5}, []string{life(5, 4), last(5, 5, a), life(6, 6)}, one("a", "1")},
		"back from half 1":   {9, impl.Root{Turn: 7, Half: 1, First: 22, Life: 5}, []string{life(5, 22), last(6, 23, a), last(6, 24, batchForm([]impl.Change{{Key: "a", Gone: true}}))}, impl.State{}},
		"from half 0 again":  {9, impl.Root{Turn: 8, Half: 0, First: 25, Life: 5}, []string{life(5, 25), last(6, 26, a), last(6, 27, a)}, one("a", "1")},
		"the last turn":      {8, impl.Root{Turn: impl.MaxNumber - 1, Half: 1, First: 3, Life: 5}, []string{life(5, 3), life(6, 4), life(6, 5)}, impl.State{}},
		"the greatest First": {8, impl.Root{Turn: 1, Half: 1, First: impl.MaxFirst - 3, Life: 5}, []string{life(5, impl.MaxFirst-3), life(6, impl.MaxFirst-2), life(6, impl.MaxFirst-1)}, impl.State{}},
	} {
		d := impl.NewDisk(c.sectors)
		if c.root != noRoot {
			d = withRoot(c.sectors, c.root)
		}
		from, to := 2, 5
		if c.root.Half == 1 {
			from, to = to, from
		}
		d = laid(d, from, c.pages...)
		before := openModel(d, 8)
		newLife := before.Store.Life
		moved := append([]string{life(newLife, c.root.First+3)}, snapshotModel(c.want, newLife, c.root.First+4, 8)...)
		next := impl.Root{Turn: c.root.Turn + 1, Half: 1 - c.root.Half, First: c.root.First + 3, Life: newLife}
		var ops []impl.Op
		for i, p := range moved {
			ops = append(ops, impl.Op{At: to + i, Data: p})
		}
		ops = append(ops, impl.Op{Sync: true}, impl.Op{At: (c.root.Turn + 1) % 2, Data: rootForm(next, 8)}, impl.Op{Sync: true})
		want := impl.Done{Store: impl.Store{Width: 8, Sectors: c.sectors, Life: newLife, Root: next, Used: len(moved), State: c.want}, Ops: ops}
		got := impl.Open(d, 8)
		if !sameDone(got, want) || !sameDone(got, before) {
			t.Errorf("%s: %+v, not %+v", name, got, want)
		}
		again := impl.Open(done(t, d, got), 8)
		if again.Code != 0 || again.Store.Life != newLife+1 || !sameState(again.Store.State, c.want) {
			t.Errorf("%s: opened again: %+v", name, again)
		}
	}
}

func TestOpenWhereTheStateCannotBeMoved(t *testing.T) {
	for name, r := range map[string]impl.Root{
		"turn":          {Turn: impl.MaxNumber, Half: 0, First: 10, Life: 1},
		"first":         {Turn: 4, Half: 0, First: impl.MaxFirst - 2, Life: 1},
		"the last one":  {Turn: 4, Half: 0, First: impl.MaxFirst, Life: 1},
		"turn and then": {Turn: impl.MaxNumber, Half: 0, First: impl.MaxFirst, Life: 1},
	} {
		full := laid(withRoot(8, r), 2, life(2, r.First), life(2, r.First+1), life(2, r.First+2))
		hasCode(t, name, impl.Open(full, 8), 4)
		// With a sector left nothing has to be moved.
		left := laid(withRoot(8, r), 2, life(2, r.First), life(2, r.First+1))
		got := impl.Open(left, 8)
		want := impl.Store{Width: 8, Sectors: 8, Life: 3, Root: r, Used: 3}
		if !sameDone(got, impl.Done{Store: want, Ops: []impl.Op{{At: 4, Data: life(3, r.First+2)}, {Sync: true}}}) {
			t.Errorf("%s: %+v", name, got)
		}
		none := laid(withRoot(8, r), 2, last(2, r.First, "none"), life(2, r.First+1), life(2, r.First+2))
		hasCode(t, name, impl.Open(none, 8), 2)
	}
}

func TestOpenReadsWhatIsPending(t *testing.T) {
	d := laid(impl.NewDisk(8), 2, life(1, 1))
	d.Pending = []impl.Write{{At: 3, Data: last(1, 2, batchForm(put("a", "1")))}}
	if got := impl.Open(d, 8); !sameState(got.Store.State, one("a", "1")) || got.Store.Used != 3 {
		t.Errorf("%+v", got)
	}
	d.Pending = append(d.Pending, impl.Write{At: 6, Data: last(3, 9, batchForm(put("b", "2")))}, impl.Write{At: 5, Data: life(3, 8)}, impl.Write{At: 0, Data: rootForm(impl.Root{Turn: 2, Half: 1, First: 8, Life: 3}, 8)})
	if got := impl.Open(d, 8); !sameState(got.Store.State, one("b", "2")) || got.Store.Used != 3 || got.Store.Life != 4 || got.Ops[0].At != 7 {
		t.Errorf("%+v", got)
	}
}

func TestCommitWritesBehindWhatIsUsed(t *testing.T) {
	root := impl.Root{Turn: 7, Half: 1, First: 50, Life: 3}
	s := impl.Store{Width: 8, Sectors: 21, Life: 4, Root: root, Used: 3, Loose: 2, State: one("b", "old")}
	b := []impl.Change{{Key: "b", Gone: true}, {Key: "a", Value: text(60)}}
	form := batchForm(b)
	want := impl.Done{
		Store: impl.Store{Width: 8, Sectors: 21, Life: 4, Root: root, Used: 5, Loose: 4, State: one("a", text(60))},
		Ops:   []impl.Op{{At: 14, Data: part(4, 53, form[:48])}, {At: 15, Data: last(4, 54, form[48:])}},
	}
	if got := impl.Commit(s, b); !sameDone(got, want) {
		t.Errorf("%+v, not %+v", got, want)
	}
	nothing := []impl.Change{{Key: "none", Gone: true}}
	want = impl.Done{Store: s, Ops: []impl.Op{{At: 14, Data: last(4, 53, batchForm(nothing))}}}
	want.Store.Used, want.Store.Loose = 4, 3
	if got := impl.Commit(s, nothing); !sameDone(got, want) {
		t.Errorf("a batch that changes nothing: %+v", got)
	}
	low := impl.Store{Width: 1, Sectors: 8, Life: 1, Root: noRoot}
	want = impl.Done{
		Store: impl.Store{Width: 1, Sectors: 8, Life: 1, Root: noRoot, Used: 1, Loose: 1, State: one("a", "1")},
		Ops:   []impl.Op{{At: 2, Data: formOf(impl.Page{Kind: impl.PageLast, Life: 1, Number: 1, Part: "\x00\x01a\x011"}, 1)}},
	}
	if got := impl.Commit(low, put("a", "1")); !sameDone(got, want) {
		t.Errorf("at the half's beginning: %+v", got)
	}
}

func TestCommitOfWhatIsNotValid(t *testing.T) {
	for name, s := range brokenStores() {
		hasCode(t, name, impl.Commit(s, put("a", "1")), 1)
		hasCode(t, name, impl.Commit(s, nil), 1)
	}
	for name, s := range validStores() {
		for also, b := range brokenBatches() {
			hasCode(t, name+", "+also, impl.Commit(s, b), 1)
		}
	}
}

func TestTheCodesOfCommitInTheirOrder(t *testing.T) {
	hundred := state(pairs(100, 0)...) // of 15 pages
	brim := roomy(2, 8, true)
	key := brim.Pairs[1].Key
	much := []impl.Change{}
	for i := range 20 {
		much = append(much, impl.Change{Key: string([]byte{byte(i)}), Value: text(100)})
	}
	for name, c := range map[string]struct {
		sectors, used int
		state         impl.State
		batch         []impl.Change
		code          int
	}{
		"too many pairs":            {200, 1, hundred, put("a", ""), 2},
		"and no room":               {34, 1, hundred, much, 2},
		"and no sector":             {34, 16, hundred, put("a", ""), 2},
		"100 pairs again":           {34, 1, hundred, put("k\x00\x00", ""), 0},
		"one for one":               {200, 1, hundred, []impl.Change{{Key: "a"}, {Key: "k\x00\x00", Gone: true}}, 0},
		"no room":                   {8, 1, brim, put(key, brim.Pairs[1].Value+"x"), 3},
		"room to the brim":          {8, 1, brim, put(key, brim.Pairs[1].Value), 0},
		"no room and no sector":     {8, 3, brim, put(key, brim.Pairs[1].Value+"x"), 3},
		"no room in any half":       {200, 1, hundred, much, 2},
		"no room in a greater half": {60, 1, impl.State{}, much, 3},
		"no sector":                 {8, 3, brim, put(key, ""), 4},
		"no sector, all gone":       {8, 3, brim, []impl.Change{{Key: key, Gone: true}, {Key: brim.Pairs[0].Key, Gone: true}}, 4},
		"just one sector":           {8, 2, brim, put(key, ""), 0},
		"two pages, one sector":     {8, 2, impl.State{}, put("a", text(45)), 4},
		"two pages, two sectors":    {8, 1, impl.State{}, put("a", text(45)), 0},
		"a page to the brim":        {8, 2, impl.State{}, put("a", text(44)), 0},
		"all pages of a half":       {8, 0, one("a", ""), append(put("a", text(100)), impl.Change{Key: "a", Value: text(5)}), 0},
		"one more":                  {8, 0, one("a", ""), append(put("a", text(100)), impl.Change{Key: "b"}, impl.Change{Key: "a", Value: text(40)}), 4},
	} {
		s := impl.Store{Width: 8, Sectors: c.sectors, Life: 2, Root: noRoot, Used: c.used, State: c.state}
		if !impl.ValidStore(s) || !impl.ValidBatch(c.batch) {
			t.Fatalf("%s: not valid", name)
		}
		got := impl.Commit(s, c.batch)
		hasCode(t, name, got, c.code)
		if !sameDone(got, commitModel(s, c.batch)) {
			t.Errorf("%s: %+v", name, got)
		}
	}
}

// The sectors that are left, in each half, at every number of them, and one page more than that.
func TestCommitFillsTheHalf(t *testing.T) {
	for _, half := range []int{0, 1} {
		for used := 0; used <= 9; used++ {
			s := impl.Store{Width: 8, Sectors: 20, Life: 2, Root: impl.Root{Turn: 9, Half: half, First: 30, Life: 1}, Used: used, Loose: used / 2}
			for pages := 1; pages <= 10-used; pages++ {
				// One key many times: many pages, little room.
				var b []impl.Change
				for range 4 {
					b = append(b, impl.Change{Key: "a", Value: text(100)})
				}
				for len(batchForm(b)) > 48*pages {
					b = b[1:]
				}
				for len(batchForm(b)) <= 48*(pages-1) || len(b) == 0 {
					b = append(b, impl.Change{Key: "a", Value: text(min(100, 48*pages-len(batchForm(b))-4))})
				}
				got := impl.Commit(s, b)
				if !sameDone(got, commitModel(s, b)) || (got.Code == 0) != (used+pages <= 9) {
					t.Errorf("%d used, %d pages: %+v", used, pages, got)
				}
				if got.Code == 0 && (got.Store.Used != used+pages || got.Store.Loose != used/2+pages || len(got.Ops) != pages) {
					t.Errorf("%d used, %d pages: %+v", used, pages, got)
				}
			}
		}
	}
}

func TestCommitAtTheGreatestNumbers(t *testing.T) {
	s := validStores()["the most"]
	s.Used, s.Loose = 98, 0
	b := []impl.Change{{Key: "none", Gone: true}}
	want := impl.Done{Store: s, Ops: []impl.Op{{At: 2 + 99 + 98, Data: last(impl.MaxLife, impl.MaxFirst+98, batchForm(b))}}}
	want.Store.Used, want.Store.Loose = 99, 1
	if got := impl.Commit(s, b); !sameDone(got, want) {
		t.Errorf("%+v", got)
	}
}

func TestFlush(t *testing.T) {
	for name, s := range validStores() {
		want := impl.Done{Store: s, Ops: []impl.Op{{Sync: true}}}
		want.Store.Loose = 0
		if got := impl.Flush(s); !sameDone(got, want) {
			t.Errorf("%s: %+v", name, got)
		}
	}
	for name, s := range brokenStores() {
		hasCode(t, name, impl.Flush(s), 1)
	}
}

// P13
func TestCompactMovesTheState(t *testing.T) {
	for name, s := range map[string]impl.State{
		"empty":             {},
		"one batch":         state(pairs(20, 3)...),
		"one pair":          one("a", text(100)),
		"two batches":       state(pairs(21, 3)...),
		"several":           state(pairs(75, 20)...),
		"a hundred":         state(pairs(100, 30)...),
		"room of all of it": roomy(98, 8, true),
	} {
		for _, root := range []impl.Root{noRoot, {Turn: 1, Half: 1, First: 4, Life: 5}, {Turn: 6, Half: 0, First: 1000, Life: 2}, {Turn: 7, Half: 0, First: 9, Life: 9}, {Turn: impl.MaxNumber - 1, Half: 1, First: impl.MaxFirst - 99, Life: impl.MaxLife}} {
			for _, used := range []int{0, 7, 99} {
				store := impl.Store{Width: 8, Sectors: 200, Life: 6, Root: root, Used: used, Loose: used, State: s}
				got := impl.Compact(store)
				if !sameDone(got, moveModel(store)) || !impl.ValidStore(got.Store) {
					t.Fatalf("%s, %+v: %+v", name, root, got)
				}
				room := roomModel(s, 8)
				if got.Store.Used != 1+room || got.Store.Loose != 0 || got.Store.Life != 6 || got.Store.Root.Life != 6 {
					t.Errorf("%s: %+v", name, got.Store)
				}
				if free := impl.Halves(200) - got.Store.Used; free < impl.Halves(200)-1-impl.Room(s, 8) {
					t.Errorf("%s: %d sectors are free", name, free)
				}
			}
		}
	}
}

func TestCompactThatIsRefused(t *testing.T) {
	for name, s := range brokenStores() {
		hasCode(t, name, impl.Compact(s), 1)
		s.Root.Turn = impl.MaxNumber
		if !impl.ValidStore(s) {
			hasCode(t, name+", and it can't be moved", impl.Compact(s), 1)
		}
	}
	for _, sectors := range []int{8, 9, 10, 200} {
		half := (sectors - 2) / 2
		for _, c := range []struct{ turn, first, code int }{
			{impl.MaxNumber, 1, 4},
			{impl.MaxNumber - 1, 1, 0},
			{0, impl.MaxFirst, 4},
			{0, impl.MaxFirst - half + 1, 4},
			{0, impl.MaxFirst - half, 0},
			{impl.MaxNumber - 1, impl.MaxFirst - half, 0},
			{impl.MaxNumber, impl.MaxFirst, 4},
		} {
			for _, used := range []int{0, 1, half} {
				s := impl.Store{Width: 8, Sectors: sectors, Life: 1, Root: impl.Root{Turn: c.turn, Half: 1, First: c.first, Life: 1}, Used: used, State: one("a", "1")}
				got := impl.Compact(s)
				hasCode(t, "compact", got, c.code)
				if !sameDone(got, moveModel(s)) {
					t.Errorf("%d sectors, turn %d, first %d: %+v", sectors, c.turn, c.first, got)
				}
			}
		}
	}
}

// P13: the half is turned to and fro, and each time the disk, opened, tells the state.
func TestCompactBackAndForth(t *testing.T) {
	for _, sectors := range []int{8, 11, 40} {
		half := (sectors - 2) / 2
		d := impl.NewDisk(sectors)
		got := impl.Open(d, 8)
		d = done(t, d, got)
		for turn := 1; turn <= 9; turn++ {
			got = impl.Commit(got.Store, put("a", text(turn)))
			d = done(t, d, got)
			before := got.Store
			got = impl.Compact(before)
			d = done(t, d, got)
			if got.Store.Root != (impl.Root{Turn: turn, Half: turn % 2, First: 1 + turn*half, Life: 1}) || !sameState(got.Store.State, before.State) {
				t.Fatalf("turn %d: %+v", turn, got.Store)
			}
			if impl.FindRoot(d, 8) != got.Store.Root || len(d.Pending) != 0 {
				t.Fatalf("turn %d: %+v", turn, impl.FindRoot(d, 8))
			}
			if again := impl.Open(d, 8); again.Code != 0 || !sameState(again.Store.State, one("a", text(turn))) || again.Store.Life != 2 {
				t.Fatalf("turn %d: %+v", turn, again)
			}
		}
	}
}

// Of the pages of a state that is moved none may be missed once its root is there, and the old half stays until then.
func TestMovingCutShort(t *testing.T) {
	r := dice(12)
	d := impl.NewDisk(24)
	got := impl.Open(d, 8)
	d = done(t, d, got)
	for _, b := range [][]impl.Change{put("a", text(100)), put("b", text(90)), put("c", text(33))} {
		got = impl.Commit(got.Store, b)
		d = done(t, d, got)
	}
	loose := got.Store.State
	got = impl.Flush(got.Store)
	d = done(t, d, got)
	for turn := range 4 {
		got = impl.Compact(got.Store)
		for cut := 0; cut <= len(got.Ops); cut++ {
			for range 30 {
				lost := impl.PowerLoss(impl.Perform(d, got.Ops, cut), someFates(&r, 12))
				again := impl.Open(lost, 8)
				if again.Code != 0 || !sameState(again.Store.State, loose) {
					t.Fatalf("turn %d, cut behind %d ops: %+v", turn, cut, again)
				}
			}
		}
		d = done(t, d, got)
	}
}

// walker leads a store and its disk through calls, each held against the model.
type walker struct {
	t     *testing.T
	dice  *dice
	disk  impl.Disk
	store impl.Store
	calls map[string]int
}

// take holds a call against the model and does its ops.
func (w *walker) take(name string, got, want impl.Done) {
	w.t.Helper()
	if !sameDone(got, want) {
		w.t.Fatalf("%s: %+v, not %+v", name, got, want)
	}
	w.calls[name+" "+string(rune('0'+got.Code))]++
	if got.Code != 0 {
		return
	}
	w.disk, w.store = impl.Perform(w.disk, got.Ops, len(got.Ops)), got.Store
	if !impl.ValidStore(w.store) {
		w.t.Fatalf("%s: not valid: %+v", name, w.store)
	}
	if again := impl.Open(w.disk, w.store.Width); again.Code != 0 || !sameState(again.Store.State, w.store.State) {
		w.t.Fatalf("%s: opened with %+v, not %+v", name, again, w.store)
	}
	if len(w.disk.Pending) != w.store.Loose {
		w.t.Fatalf("%s: %d pending, %d loose", name, len(w.disk.Pending), w.store.Loose)
	}
}

func (w *walker) open(width int) {
	w.take("open", impl.Open(w.disk, width), openModel(w.disk, width))
}

// batch has few keys, with values that are small for a small disk.
func (w *walker) batch() []impl.Change {
	var b []impl.Change
	for range 1 + w.dice.roll(w.dice.roll(20)+1) {
		c := impl.Change{Key: string([]byte{byte('a' + w.dice.roll(26)), byte('a' + w.dice.roll(1+w.dice.roll(6)))}), Gone: w.dice.roll(3) == 0}
		if !c.Gone {
			c.Value = text(w.dice.roll(min(101, 2+len(w.disk.Sectors)/2)))
		}
		b = append(b, c)
	}
	return b
}

func (w *walker) step() {
	switch w.dice.roll(20) {
	case 0:
		want := impl.Done{Store: w.store, Ops: []impl.Op{{Sync: true}}}
		want.Store.Loose = 0
		w.take("flush", impl.Flush(w.store), want)
	case 1:
		w.take("compact", impl.Compact(w.store), moveModel(w.store))
	case 2:
		w.open(w.store.Width)
	default:
		b := w.batch()
		w.take("commit", impl.Commit(w.store, b), commitModel(w.store, b))
	}
}

// P7, P13
func TestTheStoreIsTheModel(t *testing.T) {
	r := dice(13)
	calls := map[string]int{}
	moved := 0
	for round := 0; round < 120; round++ {
		sectors := []int{8, 9, 10, 13, 20, 33, 60, 120, 200}[r.roll(9)]
		w := walker{t: t, dice: &r, disk: impl.NewDisk(sectors), calls: calls}
		w.open(1 + r.roll(impl.MaxWidth))
		for range 80 {
			w.step()
		}
		moved += w.store.Root.Turn
	}
	for _, name := range []string{"open 0", "commit 0", "commit 3", "commit 4", "flush 0", "compact 0"} {
		if calls[name] < 50 {
			t.Errorf("%s only %d times", name, calls[name])
		}
	}
	if moved <= calls["compact 0"] {
		t.Errorf("Open has moved no state: %d turns, %d of Compact", moved, calls["compact 0"])
	}
}

// Disks of pages that go on or not, so that Open meets what no store has written.
func TestOpenOfSomePagesIsTheModel(t *testing.T) {
	r := dice(14)
	codes := map[int]int{}
	for round := 0; round < 4000; round++ {
		sectors := 8 + r.roll(12)
		half := (sectors - 2) / 2
		width := 1 + r.roll(impl.MaxWidth)
		root := impl.Root{Turn: 1 + r.roll(9), Half: r.roll(2), First: 1 + r.roll(3), Life: 1 + r.roll(2)}
		if r.roll(10) == 0 {
			root.Turn, root.First = impl.MaxNumber-r.roll(2), impl.MaxFirst-r.roll(10)
		}
		d := laid(impl.NewDisk(sectors), root.Turn%2, rootForm(root, width))
		at, number := 2+root.Half*half, root.First
		lives := []int{root.Life, impl.MaxLife - 1, impl.MaxLife}
		for end := at + r.roll(half+1); at < end; {
			pages := []string{formOf(impl.Page{Kind: impl.PageLife, Life: lives[0], Number: number}, width)}
			if r.roll(3) > 0 {
				pages = cutModel(batchForm(someBatch(&r, 1+r.roll(3), 1)), lives[0], number, width)
			}
			if r.roll(40) == 0 {
				pages = cutModel(text(r.roll(80)), lives[0], number, width)
			}
			if len(lives) > 1 && r.roll(5) == 0 {
				lives = lives[1:]
			}
			pages = pages[:min(len(pages), sectors-at)]
			d = laid(d, at, pages...)
			at, number = at+len(pages), number+len(pages)
		}
		got := impl.Open(d, width)
		if !sameDone(got, openModel(d, width)) {
			t.Fatalf("round %d: %+v, not %+v", round, got, openModel(d, width))
		}
		if got.Code == 0 && !impl.ValidStore(got.Store) {
			t.Fatalf("round %d: %+v", round, got.Store)
		}
		codes[got.Code]++
	}
	for code, least := range map[int]int{0: 1000, 2: 100, 3: 50, 4: 50} {
		if codes[code] < least {
			t.Errorf("codes %v", codes)
		}
	}
}

// copiedStore is the same store in other memory, with a mark behind its pairs.
func copiedStore(s impl.Store) impl.Store {
	s.State = impl.State{Pairs: spare(s.State.Pairs, impl.Pair{Key: "mark"})}
	return s
}

func TestTheStoreWritesIntoNoArgumentAndSharesNothing(t *testing.T) {
	change := impl.Change{Key: "mark"}
	for name, s := range validStores() {
		given := copiedStore(s)
		d := copied(withRoot(8, impl.Root{Turn: 1, Half: 1, First: 4, Life: 1}))
		d = copied(laid(d, 5, life(1, 4), last(1, 5, batchForm(put("a", "1")))))
		before := copied(d)
		b := spare([]impl.Change{{Key: "zz", Value: "new"}, {Key: "a", Gone: true}}, change)
		for call, f := range map[string]func() impl.Done{
			"open":    func() impl.Done { return impl.Open(d, 8) },
			"commit":  func() impl.Done { return impl.Commit(given, b) },
			"flush":   func() impl.Done { return impl.Flush(given) },
			"compact": func() impl.Done { return impl.Compact(given) },
		} {
			first := f()
			want := f()
			overwrite(first.Store.State.Pairs, impl.Pair{Key: "over"})
			overwrite(first.Ops, impl.Op{At: -9})
			if !sameStore(given, s) || given.State.Pairs[:len(s.State.Pairs)+1][len(s.State.Pairs)].Key != "mark" {
				t.Fatalf("%s, %s: the store was changed", name, call)
			}
			if !slices.Equal(b, []impl.Change{{Key: "zz", Value: "new"}, {Key: "a", Gone: true}}) || b[:3][2] != change {
				t.Fatalf("%s, %s: the batch was changed", name, call)
			}
			if !sameDisk(d, before) || !marked(d) {
				t.Fatalf("%s, %s: the disk was changed", name, call)
			}
			if got := f(); !sameDone(got, want) {
				t.Errorf("%s, %s: the second answer is not the first", name, call)
			}
		}
	}
}
