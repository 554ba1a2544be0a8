package tests

import (
	"math"
	"slices"
	"strconv"
	"testing"

	"loop.example/kilnstone/impl"
)

// all is an event of a kind whose ops are all done.
func all(kind int) impl.Event {
	return impl.Event{Kind: kind, Cut: -1}
}

func commit(b []impl.Change) impl.Event {
	return impl.Event{Kind: impl.EvCommit, Batch: b, Cut: -1}
}

// led is the world that some events lead to.
func led(w impl.World, events ...impl.Event) impl.World {
	for _, e := range events {
		w = impl.Do(w, e)
	}
	return w
}

func samePast(a, b []impl.State) bool {
	return slices.EqualFunc(a, b, sameState)
}

func sameWorld(a, b impl.World) bool {
	return a.Width == b.Width && a.Up == b.Up && sameDisk(a.Disk, b.Disk) && sameStore(a.Store, b.Store) && samePast(a.Past, b.Past) && slices.Equal(a.Written, b.Written)
}

// copiedWorld is the same world in other memory, with marks behind each of its lists.
func copiedWorld(w impl.World) impl.World {
	w.Disk = copied(w.Disk)
	w.Store = copiedStore(w.Store)
	var past []impl.State
	for _, s := range w.Past {
		past = append(past, impl.State{Pairs: spare(s.Pairs, impl.Pair{Key: "mark"})})
	}
	w.Past = spare(past, one("mark", ""))
	w.Written = spare(w.Written, "mark")
	return w
}

// doModel is what an event comes to in a valid world, told in the order of the document's words.
func doModel(w impl.World, e impl.Event) impl.World {
	w = copiedWorld(w)
	var call impl.Done
	switch {
	case e.Kind == 5:
	case e.Kind == 1 && !w.Up:
		call = openModel(w.Disk, w.Width)
	case e.Kind == 2 && w.Up && impl.ValidBatch(e.Batch):
		call = commitModel(w.Store, e.Batch)
	case e.Kind == 3 && w.Up:
		call = impl.Done{Store: w.Store, Ops: []impl.Op{{Sync: true}}}
		call.Store.Loose = 0
	case e.Kind == 4 && w.Up:
		call = moveModel(w.Store)
	default:
		return w
	}
	whole := e.Kind != 5 && (e.Cut < 0 || e.Cut > len(call.Ops))
	m := modelOf(w.Disk)
	written := slices.Clone(w.Written)
	for i, op := range call.Ops {
		if !whole && i >= e.Cut {
			break
		}
		m.do(op)
		if !op.Sync {
			written = append(written, op.Data)
		}
	}
	past := slices.Clone(w.Past)
	if e.Kind == 2 {
		past = append(past, call.Store.State)
	}
	if call.Code != 0 || len(written) > 2000 || len(past) > 200 {
		return w
	}
	w.Written, w.Past = written, past
	if whole {
		w.Up, w.Store = true, call.Store
		if e.Kind != 2 {
			w.Past = []impl.State{call.Store.State}
		}
	} else {
		w.Up, w.Store = false, impl.Store{}
		m.settle(func(i int) int {
			if i >= len(e.Fates) {
				return 0
			}
			return max(0, min(e.Fates[i], impl.SectorSize))
		})
	}
	w.Disk = m.disk()
	return w
}

// isDone holds Do against the model and gives its answer.
func isDone(t *testing.T, name string, w impl.World, e impl.Event) impl.World {
	t.Helper()
	got := impl.Do(w, e)
	if want := doModel(w, e); !sameWorld(got, want) {
		t.Fatalf("%s, kind %d, cut %d, fates %v:\n%+v\nnot\n%+v", name, e.Kind, e.Cut, e.Fates, brief(got), brief(want))
	}
	if !impl.ValidWorld(got) {
		t.Fatalf("%s, kind %d, cut %d: not valid behind it", name, e.Kind, e.Cut)
	}
	return got
}

// brief tells a world without its sectors.
func brief(w impl.World) string {
	text := "up " + strconv.FormatBool(w.Up) + ", used " + strconv.Itoa(w.Store.Used) + ", life " + strconv.Itoa(w.Store.Life) + ", turn " + strconv.Itoa(w.Store.Root.Turn)
	text += ", written " + strconv.Itoa(len(w.Written)) + ", pending " + strconv.Itoa(len(w.Disk.Pending)) + ", past " + strconv.Itoa(len(w.Past)) + ", pairs"
	for _, s := range w.Past[:min(len(w.Past), 9)] {
		text += " " + strconv.Itoa(len(s.Pairs))
	}
	return text
}

// worlds are valid worlds, up and not, with something pending and with nothing.
func worlds() map[string]impl.World {
	made := impl.NewWorld(16, 8)
	open := led(made, all(impl.EvOpen))
	one := led(open, commit(put("a", "1")))
	two := led(one, commit(put("b", text(70))))
	full := led(impl.NewWorld(8, 2), all(impl.EvOpen), commit(put("a", "1")), commit(put("a", "2")))
	moved := led(two, all(impl.EvCompact), commit(put("c", "3")))
	pending := led(two, impl.Event{Kind: impl.EvPower})
	pending.Disk.Pending = []impl.Write{{At: 3, Data: last(1, 2, batchForm(put("x", "y")))}, {At: 1, Data: filled('r')}}
	most := led(impl.NewWorld(200, 8), all(impl.EvOpen))
	for i := range 30 {
		most = led(most, commit(put(string([]byte{byte(i)}), text(100))))
	}
	return map[string]impl.World{
		"new":              made,
		"open":             open,
		"a batch":          one,
		"two batches":      two,
		"full":             full,
		"full, down":       led(full, impl.Event{Kind: impl.EvPower, Fates: []int{64, 64}}),
		"flushed":          led(two, all(impl.EvFlush)),
		"moved":            moved,
		"moved, down":      led(moved, impl.Event{Kind: impl.EvPower, Fates: []int{64}}),
		"torn":             led(two, impl.Event{Kind: impl.EvPower, Fates: []int{64, 20, 3}}),
		"down but pending": pending,
		"much":             most,
	}
}

func TestNewWorld(t *testing.T) {
	for _, sectors := range []int{8, 9, 40, 199, 200} {
		for _, width := range []int{1, 2, 8} {
			w := impl.NewWorld(sectors, width)
			want := impl.World{Width: width, Disk: impl.NewDisk(sectors), Past: []impl.State{{}}}
			if !sameWorld(w, want) || !impl.ValidWorld(w) {
				t.Errorf("%d sectors, width %d: %s", sectors, width, brief(w))
			}
			if s, code := impl.Found(w); code != 0 || !isNothingState(s) || !impl.Right(w) || impl.Forged(w) != "" {
				t.Errorf("%d sectors, width %d: found %+v, %d", sectors, width, s, code)
			}
		}
	}
	for _, sectors := range []int{7, 201, 0, -1, -8, math.MinInt, math.MaxInt} {
		for _, width := range []int{-1, 0, 1, 8, 9} {
			if w := impl.NewWorld(sectors, width); !sameWorld(w, impl.World{}) {
				t.Errorf("%d sectors, width %d: %s", sectors, width, brief(w))
			}
		}
	}
	for _, width := range noWidths {
		if w := impl.NewWorld(8, width); !sameWorld(w, impl.World{}) {
			t.Errorf("width %d: %s", width, brief(w))
		}
	}
}

// many are so many states, or sectors.
func many[T any](count int, of T) []T {
	return slices.Repeat([]T{of}, count)
}

func validWorlds() map[string]impl.World {
	valid := worlds()
	down, up := valid["moved, down"], valid["moved"]
	change := func(name string, w impl.World, by func(w *impl.World)) {
		w = copiedWorld(w)
		by(&w)
		valid[name] = w
	}
	for name, w := range map[string]impl.World{"down": down, "up": up} {
		change(name+", 200 past", w, func(w *impl.World) { w.Past = many(200, one("z", "")) })
		change(name+", one past", w, func(w *impl.World) { w.Past = many(1, roomy(98, 8, true)) })
		change(name+", nothing written", w, func(w *impl.World) { w.Written = nil })
		change(name+", 2000 written", w, func(w *impl.World) { w.Written = many(2000, filled('w')) })
		change(name+", 300 pending", w, func(w *impl.World) { w.Disk.Pending = many(300, impl.Write{At: 13, Data: filled('p')}) })
	}
	change("an empty list in the store", down, func(w *impl.World) { w.Store.State.Pairs = []impl.Pair{} })
	change("another state than the past", up, func(w *impl.World) { w.Store.State = one("other", "") })
	for width := 1; width <= impl.MaxWidth; width++ {
		change("down, width "+strconv.Itoa(width), down, func(w *impl.World) { w.Width = width })
		change("up, width "+strconv.Itoa(width), up, func(w *impl.World) { w.Width, w.Store.Width = width, width })
	}
	for name, s := range validStates() {
		change("past: "+name, up, func(w *impl.World) { w.Past = []impl.State{{}, s, one("a", "")} })
	}
	for name, s := range validStores() {
		valid["store: "+name] = impl.World{Width: s.Width, Disk: impl.NewDisk(s.Sectors), Up: true, Store: s, Past: []impl.State{s.State}}
	}
	return valid
}

// brokenWorlds are worlds that each miss being valid by one thing.
func brokenWorlds() map[string]impl.World {
	broken := map[string]impl.World{"nothing": {}}
	valid := worlds()
	spoil := func(name string, w impl.World, by func(w *impl.World)) {
		w = copiedWorld(w)
		by(&w)
		broken[name] = w
	}
	down, up := valid["moved, down"], valid["moved"]
	for name, w := range map[string]impl.World{"down": down, "up": up} {
		for _, width := range noWidths {
			spoil(name+", width "+strconv.Itoa(width), w, func(w *impl.World) { w.Width = width })
		}
		for disk, d := range brokenDisks() {
			spoil(name+", disk: "+disk, w, func(w *impl.World) { w.Disk = d })
		}
		spoil(name+", no past", w, func(w *impl.World) { w.Past = nil })
		spoil(name+", 201 past", w, func(w *impl.World) { w.Past = many(201, impl.State{}) })
		for bad, s := range brokenStates() {
			for at := range 3 {
				spoil(name+", past "+strconv.Itoa(at)+": "+bad, w, func(w *impl.World) {
					w.Past = many(3, impl.State{})
					w.Past[at] = s
				})
			}
		}
		spoil(name+", 2001 written", w, func(w *impl.World) { w.Written = many(2001, filled('w')) })
		for _, size := range []int{0, 1, 63, 65, 128} {
			for at := range 3 {
				spoil(name+", written "+strconv.Itoa(at)+" of "+strconv.Itoa(size), w, func(w *impl.World) {
					w.Written = many(3, filled('w'))
					w.Written[at] = text(size)
				})
			}
		}
	}
	for name, s := range map[string]impl.Store{
		"a width": {Width: 8}, "sectors": {Sectors: 16}, "a life": {Life: 1}, "a turn": {Root: impl.Root{Turn: 1}}, "a half": {Root: impl.Root{Half: 1}},
		"a first": {Root: impl.Root{First: 1}}, "a root's life": {Root: impl.Root{Life: 1}}, "used": {Used: 1}, "loose": {Loose: 1}, "a state": {State: one("a", "")},
		"all of it": up.Store, "below nothing": {Loose: -1},
	} {
		spoil("down, but a store: "+name, down, func(w *impl.World) { w.Store = s })
	}
	spoil("up, no store", up, func(w *impl.World) { w.Store = impl.Store{} })
	spoil("another width", up, func(w *impl.World) { w.Store.Width = 7 })
	spoil("another width, the world's", up, func(w *impl.World) { w.Width = 7 })
	// A disk of 17 sectors has halves as great as those of 16.
	spoil("another number of sectors", up, func(w *impl.World) { w.Store.Sectors = 17 })
	spoil("another disk", up, func(w *impl.World) { w.Disk.Sectors = append(w.Disk.Sectors, filled(0)) })
	for name, s := range brokenStores() {
		if slices.Contains(noWidths, s.Width) || s.Sectors < 8 || s.Sectors > 200 {
			broken["store: "+name] = impl.World{Width: 8, Disk: impl.NewDisk(9), Up: true, Store: s, Past: many(1, impl.State{})}
		} else {
			broken["store: "+name] = impl.World{Width: s.Width, Disk: impl.NewDisk(s.Sectors), Up: true, Store: s, Past: many(1, impl.State{})}
		}
	}
	return broken
}

func TestValidWorld(t *testing.T) {
	for name, w := range validWorlds() {
		if !impl.ValidWorld(w) {
			t.Errorf("%s: not valid", name)
		}
	}
	for name, w := range brokenWorlds() {
		if impl.ValidWorld(w) {
			t.Errorf("%s: valid", name)
		}
	}
}

func TestNothingOfAWorldThatIsNotValid(t *testing.T) {
	for name, w := range brokenWorlds() {
		for kind := 0; kind <= 6; kind++ {
			for _, cut := range []int{-1, 0, 1} {
				e := impl.Event{Kind: kind, Batch: put("a", "1"), Cut: cut, Fates: []int{64}}
				if got := impl.Do(w, e); !sameWorld(got, impl.World{}) {
					t.Errorf("%s, kind %d: %s", name, kind, brief(got))
				}
			}
		}
		if s, code := impl.Found(w); code != 1 || !isNothingState(s) || impl.Right(w) || impl.Forged(w) != "" {
			t.Errorf("%s: found %+v, %d", name, s, code)
		}
	}
}

// Each kind, up and not, with every cut and fates of all sorts.
func TestDoIsTheModel(t *testing.T) {
	r := dice(20)
	for name, w := range validWorlds() {
		for _, kind := range []int{impl.EvOpen, impl.EvCommit, impl.EvFlush, impl.EvCompact, impl.EvPower, 0, 6, -1, math.MinInt, math.MaxInt} {
			for _, b := range [][]impl.Change{put("n", "ew"), {{Key: "a", Value: text(100)}, {Key: "a", Gone: true}}, {{Key: "a", Gone: true}}, nil} {
				if kind != impl.EvCommit && b == nil {
					continue
				}
				cuts := []int{math.MinInt, -1, 0, 1, 2, 3, 4, 5, 6, 30, 90, math.MaxInt}
				for _, cut := range cuts {
					isDone(t, name, w, impl.Event{Kind: kind, Batch: b, Cut: cut, Fates: someFates(&r, r.roll(8))})
				}
			}
		}
	}
}

func TestKindsThatCannotHappen(t *testing.T) {
	for name, w := range worlds() {
		kinds := []int{0, 6, 7, -1, -5, math.MinInt, math.MaxInt, impl.EvOpen}
		if !w.Up {
			kinds = append(kinds[:7], impl.EvCommit, impl.EvFlush, impl.EvCompact)
		}
		for _, kind := range kinds {
			for _, cut := range []int{-1, 0, 1, 2} {
				e := impl.Event{Kind: kind, Batch: put("a", "9"), Cut: cut, Fates: []int{64, 64, 64}}
				if got := impl.Do(w, e); !sameWorld(got, w) {
					t.Errorf("%s, kind %d, cut %d: %s", name, kind, cut, brief(got))
				}
			}
		}
	}
}

// downWith is a world that is not up on a disk, upWith one that is.
func downWith(d impl.Disk) impl.World {
	return impl.World{Width: 8, Disk: d, Past: many(1, impl.State{})}
}

func upWith(s impl.Store) impl.World {
	return impl.World{Width: s.Width, Disk: impl.NewDisk(s.Sectors), Up: true, Store: s, Past: []impl.State{s.State}}
}

func TestNothingHappensWithACode(t *testing.T) {
	top := impl.MaxLife
	far := impl.Root{Turn: impl.MaxNumber, First: 1, Life: 1}
	high := impl.Root{Turn: 1, First: impl.MaxFirst, Life: 1}
	hundred := state(pairs(100, 0)...)
	brim := roomy(2, 8, true)
	more := put(brim.Pairs[1].Key, brim.Pairs[1].Value+"x")
	for name, c := range map[string]struct {
		world impl.World
		kind  int
		batch []impl.Change
	}{
		"open 2":               {downWith(laid(impl.NewDisk(8), 2, last(1, 1, "none"))), impl.EvOpen, nil},
		"open 3":               {downWith(laid(impl.NewDisk(8), 2, life(top, 1))), impl.EvOpen, nil},
		"open 4, room":         {downWith(laid(impl.NewDisk(8), 2, snapshotModel(roomy(3, 8, false), 1, 1, 8)...)), impl.EvOpen, nil},
		"open 4, turn":         {downWith(laid(withRoot(8, far), 2, life(2, 1), life(2, 2), life(2, 3))), impl.EvOpen, nil},
		"open 4, first":        {downWith(laid(withRoot(8, impl.Root{Turn: 2, First: impl.MaxFirst, Life: 1}), 2, life(2, impl.MaxFirst), life(2, impl.MaxFirst+1), life(2, impl.MaxFirst+2))), impl.EvOpen, nil},
		"commit 1":             {upWith(impl.Store{Width: 8, Sectors: 8, Life: 1, Root: noRoot, Used: 1}), impl.EvCommit, nil},
		"commit 1, no key":     {upWith(impl.Store{Width: 8, Sectors: 8, Life: 1, Root: noRoot, Used: 1}), impl.EvCommit, put("", "1")},
		"commit 2":             {upWith(impl.Store{Width: 8, Sectors: 200, Life: 1, Root: noRoot, Used: 1, State: hundred}), impl.EvCommit, put("a", "")},
		"commit 3":             {upWith(impl.Store{Width: 8, Sectors: 8, Life: 1, Root: noRoot, Used: 1, State: brim}), impl.EvCommit, more},
		"commit 4":             {upWith(impl.Store{Width: 8, Sectors: 8, Life: 1, Root: noRoot, Used: 3}), impl.EvCommit, put("a", "")},
		"commit 4, two pages":  {upWith(impl.Store{Width: 8, Sectors: 8, Life: 1, Root: noRoot, Used: 2}), impl.EvCommit, put("a", text(45))},
		"compact 4, turn":      {upWith(impl.Store{Width: 8, Sectors: 8, Life: 1, Root: far, Used: 1}), impl.EvCompact, nil},
		"compact 4, the first": {upWith(impl.Store{Width: 8, Sectors: 8, Life: 1, Root: high, Used: 1}), impl.EvCompact, nil},
	} {
		if !impl.ValidWorld(c.world) {
			t.Fatalf("%s: not valid", name)
		}
		c.world.Disk.Pending = []impl.Write{{At: 7, Data: filled('p')}}
		for _, cut := range []int{-1, 0, 1, 2, 100} {
			e := impl.Event{Kind: c.kind, Batch: c.batch, Cut: cut, Fates: []int{64, 64}}
			if got := impl.Do(c.world, e); !sameWorld(got, c.world) {
				t.Errorf("%s, cut %d: %s", name, cut, brief(got))
			}
		}
	}
}

// cutCase is an event with the ops that it asks for.
type cutCase struct {
	name   string
	world  impl.World
	event  impl.Event
	states []impl.State // Past while it is under way
	end    []impl.State // Past behind its end
	ops    []impl.Op
	store  impl.Store
}

func cutCases(t *testing.T) []cutCase {
	all := worlds()
	two, down, full := all["two batches"], all["torn"], all["full, down"]
	b := []impl.Change{{Key: "c", Value: text(100)}, {Key: "a", Gone: true}}
	opened, moved := impl.Open(down.Disk, 8), impl.Open(full.Disk, 2)
	committed, flushed, compacted := impl.Commit(two.Store, b), impl.Flush(two.Store), impl.Compact(two.Store)
	alone := func(s impl.State) []impl.State { return []impl.State{s} }
	grown := append(slices.Clone(two.Past), committed.Store.State)
	cases := []cutCase{
		{"open", down, impl.Event{Kind: impl.EvOpen}, down.Past, alone(opened.Store.State), opened.Ops, opened.Store},
		{"open that moves", full, impl.Event{Kind: impl.EvOpen}, full.Past, alone(one("a", "2")), moved.Ops, moved.Store},
		{"commit", two, impl.Event{Kind: impl.EvCommit, Batch: b}, grown, grown, committed.Ops, committed.Store},
		{"flush", two, impl.Event{Kind: impl.EvFlush}, two.Past, alone(two.Store.State), flushed.Ops, flushed.Store},
		{"compact", two, impl.Event{Kind: impl.EvCompact}, two.Past, alone(two.Store.State), compacted.Ops, compacted.Store},
	}
	for i, least := range []int{2, 5, 3, 1, 6} {
		if len(cases[i].ops) < least {
			t.Fatalf("%s: %d ops", cases[i].name, len(cases[i].ops))
		}
	}
	return cases
}

func TestAnEventThatComesToItsEnd(t *testing.T) {
	for _, c := range cutCases(t) {
		var data []string
		for _, op := range c.ops {
			if !op.Sync {
				data = append(data, op.Data)
			}
		}
		want := impl.World{Width: c.world.Width, Disk: impl.Perform(c.world.Disk, c.ops, len(c.ops)), Up: true, Store: c.store, Past: c.end, Written: append(slices.Clone(c.world.Written), data...)}
		for _, cut := range []int{-1, len(c.ops) + 1, len(c.ops) + 2, math.MinInt, math.MaxInt} {
			c.event.Cut, c.event.Fates = cut, []int{3, 64, 64}
			if got := impl.Do(c.world, c.event); !sameWorld(got, want) {
				t.Errorf("%s, cut %d: %s, not %s", c.name, cut, brief(got), brief(want))
			}
		}
	}
}

// What is remembered when power is lost in the midst: the state of a batch from its first op on, all states that were, and the writes that were done.
func TestAnEventThatIsCutShort(t *testing.T) {
	fates := [][]int{nil, {64, 64, 64, 64, 64, 64, 64, 64, 64}, {0, 64, 0, 64, 0, 64}, {-1, 1, 63, 65, math.MinInt, math.MaxInt}, {20, 20, 20, 20, 20, 20, 20, 20, 20, 20, 20, 20}, {64}}
	for _, c := range cutCases(t) {
		for cut := 0; cut <= len(c.ops); cut++ {
			written := slices.Clone(c.world.Written)
			for _, op := range c.ops[:cut] {
				if !op.Sync {
					written = append(written, op.Data)
				}
			}
			for _, f := range fates {
				c.event.Cut, c.event.Fates = cut, f
				got := impl.Do(c.world, c.event)
				want := impl.World{Width: c.world.Width, Disk: impl.PowerLoss(impl.Perform(c.world.Disk, c.ops, cut), f), Past: c.states, Written: written}
				if !sameWorld(got, want) {
					t.Errorf("%s, cut %d, fates %v: %s, not %s", c.name, cut, f, brief(got), brief(want))
				}
			}
		}
	}
}

func TestACommitCutShortAheadOfItsFirstOp(t *testing.T) {
	w := worlds()["a batch"]
	got := impl.Do(w, impl.Event{Kind: impl.EvCommit, Batch: put("b", "2"), Cut: 0, Fates: []int{64}})
	both := state(impl.Pair{Key: "a", Value: "1"}, impl.Pair{Key: "b", Value: "2"})
	if !samePast(got.Past, []impl.State{{}, one("a", "1"), both}) || got.Up || len(got.Written) != len(w.Written) {
		t.Errorf("%+v", got.Past)
	}
	if s, code := impl.Found(got); code != 0 || !sameState(s, one("a", "1")) || !impl.Right(got) {
		t.Errorf("found %+v, %d", s, code)
	}
}

func TestPowerWithACut(t *testing.T) {
	for name, w := range worlds() {
		for _, fates := range [][]int{nil, {64, 64}, {5, 70, -3}} {
			want := impl.World{Width: w.Width, Disk: impl.PowerLoss(w.Disk, fates), Past: w.Past, Written: w.Written}
			for _, cut := range []int{-1, 0, 1, 7, math.MinInt, math.MaxInt} {
				if got := impl.Do(w, impl.Event{Kind: impl.EvPower, Batch: put("a", "1"), Cut: cut, Fates: fates}); !sameWorld(got, want) {
					t.Errorf("%s, cut %d: %s", name, cut, brief(got))
				}
			}
		}
	}
}

// unsafely is a world with a write pending that matters to no event, so that power that is lost can be told from nothing that happens.
func unsafely(w impl.World) impl.World {
	w = copiedWorld(w)
	w.Disk.Pending = append(w.Disk.Pending, impl.Write{At: len(w.Disk.Sectors) - 1, Data: filled('p')})
	return w
}

// Written has room for just so many writes: an event happens with each cut behind which no more are done.
func TestAWrittenThatWouldBeTooLong(t *testing.T) {
	for _, c := range cutCases(t) {
		writes := 0
		for _, op := range c.ops {
			if !op.Sync {
				writes++
			}
		}
		for room := 0; room <= writes+1; room++ {
			w := unsafely(c.world)
			w.Written = many(impl.MaxWritten-room, filled('w'))
			for cut := -1; cut <= len(c.ops)+1; cut++ {
				done := c.ops
				if cut >= 0 && cut <= len(c.ops) {
					done = c.ops[:cut]
				}
				count := 0
				for _, op := range done {
					if !op.Sync {
						count++
					}
				}
				c.event.Cut = cut
				got := isDone(t, c.name, w, c.event)
				if count > room {
					if !sameWorld(got, w) {
						t.Errorf("%s, room for %d, cut %d: %s", c.name, room, cut, brief(got))
					}
				} else if len(got.Written) != len(w.Written)+count || sameWorld(got, w) {
					t.Errorf("%s, room for %d, cut %d: %s", c.name, room, cut, brief(got))
				}
			}
		}
	}
}

func TestAPastThatWouldBeTooLong(t *testing.T) {
	for _, c := range cutCases(t) {
		for count := impl.MaxPast - 2; count <= impl.MaxPast; count++ {
			w := unsafely(c.world)
			w.Past = many(count, one("z", ""))
			for cut := -1; cut <= len(c.ops)+1; cut++ {
				c.event.Cut = cut
				got := isDone(t, c.name, w, c.event)
				happened := c.event.Kind != impl.EvCommit || count < impl.MaxPast
				if happened == sameWorld(got, w) {
					t.Errorf("%s, %d past, cut %d: %s", c.name, count, cut, brief(got))
				}
				if happened && c.event.Kind == impl.EvCommit && (len(got.Past) != count+1 || !sameState(got.Past[count], c.store.State)) {
					t.Errorf("%s, %d past, cut %d: %s", c.name, count, cut, brief(got))
				}
			}
		}
	}
}

// Power is lost whatever is remembered.
func TestPowerWithAllThatIsRemembered(t *testing.T) {
	w := copiedWorld(worlds()["two batches"])
	w.Past, w.Written = many(impl.MaxPast, impl.State{}), many(impl.MaxWritten, filled('w'))
	got := impl.Do(w, impl.Event{Kind: impl.EvPower, Fates: []int{64}})
	if got.Up || len(got.Past) != impl.MaxPast || len(got.Written) != impl.MaxWritten || len(got.Disk.Pending) != 0 || got.Disk.Sectors[3] != w.Disk.Pending[0].Data {
		t.Errorf("%s", brief(got))
	}
}

// A disk whose memory is full takes no more writes; that they were asked for is remembered.
func TestWritesForWhichTheDiskHasNoRoom(t *testing.T) {
	w := copiedWorld(worlds()["open"])
	w.Disk.Pending = many(299, impl.Write{At: 13, Data: filled('p')})
	got := isDone(t, "one", w, commit(put("a", text(70))))
	if len(got.Disk.Pending) != 300 || len(got.Written) != len(w.Written)+2 || got.Store.Used != 3 {
		t.Errorf("%s", brief(got))
	}
	w.Disk.Pending = many(300, impl.Write{At: 13, Data: filled('p')})
	got = isDone(t, "none", w, commit(put("a", text(70))))
	if len(got.Disk.Pending) != 300 || len(got.Written) != len(w.Written)+2 || got.Store.Used != 3 {
		t.Errorf("%s", brief(got))
	}
}

func TestFoundTakesWhatIsPendingForLost(t *testing.T) {
	for name, w := range worlds() {
		s, code := impl.Found(w)
		want := impl.Open(impl.PowerLoss(w.Disk, nil), w.Width)
		if code != want.Code || !sameState(s, want.Store.State) {
			t.Errorf("%s: %+v, %d", name, s, code)
		}
		lost := impl.Do(w, impl.Event{Kind: impl.EvPower})
		if again, code := impl.Found(lost); code != 0 || !sameState(s, again) || !impl.Right(w) || !impl.Right(lost) {
			t.Errorf("%s: behind the loss %+v, %d", name, again, code)
		}
	}
	w := worlds()["two batches"]
	if s, code := impl.Found(w); code != 0 || !isNothingState(s) {
		t.Errorf("%+v, %d", s, code)
	}
	if s, code := impl.Found(led(w, all(impl.EvFlush))); code != 0 || !sameState(s, w.Store.State) {
		t.Errorf("flushed: %+v, %d", s, code)
	}
}

func TestFoundWithACode(t *testing.T) {
	top := impl.MaxLife
	for name, c := range map[string]struct {
		disk impl.Disk
		code int
	}{
		"no batch":       {laid(impl.NewDisk(8), 2, last(1, 1, "none")), 2},
		"the last life":  {laid(impl.NewDisk(8), 2, life(top, 1)), 3},
		"one below it":   {laid(impl.NewDisk(8), 2, life(top-1, 1)), 0},
		"too much room":  {laid(impl.NewDisk(8), 2, snapshotModel(roomy(3, 8, false), 1, 1, 8)...), 4},
		"the last turn":  {laid(withRoot(8, impl.Root{Turn: impl.MaxNumber, First: 1, Life: 1}), 2, life(2, 1), life(2, 2), life(2, 3)), 4},
		"one below that": {laid(withRoot(8, impl.Root{Turn: impl.MaxNumber - 1, First: 1, Life: 1}), 2, life(2, 1), life(2, 2), life(2, 3)), 0},
	} {
		w := downWith(c.disk)
		s, code := impl.Found(w)
		if code != c.code || !isNothingState(s) || impl.Right(w) != (code == 0) {
			t.Errorf("%s: %+v, %d, right %v", name, s, code, impl.Right(w))
		}
		// What is pending can't mend it, and can't spoil it.
		w.Disk.Pending = []impl.Write{{At: 2, Data: filled(0)}, {At: 2, Data: last(1, 1, "none")}}
		if s, code := impl.Found(w); code != c.code || !isNothingState(s) {
			t.Errorf("%s, pending: %+v, %d", name, s, code)
		}
	}
}

func TestRightAsksForAStateOfThePast(t *testing.T) {
	w := led(worlds()["two batches"], all(impl.EvFlush))
	there := w.Store.State
	near := copiedWorld(w).Store.State
	near.Pairs[1].Value = near.Pairs[1].Value[1:]
	for name, c := range map[string]struct {
		past []impl.State
		want bool
	}{
		"it alone":           {[]impl.State{there}, true},
		"it first":           {[]impl.State{there, {}, {}}, true},
		"it last":            {[]impl.State{{}, near, there}, true},
		"it in the midst":    {[]impl.State{{}, there, near}, true},
		"not there":          {[]impl.State{{}}, false},
		"another value":      {[]impl.State{near}, false},
		"a beginning of it":  {[]impl.State{{Pairs: there.Pairs[:1]}}, false},
		"more than it":       {[]impl.State{{Pairs: append(slices.Clone(there.Pairs), impl.Pair{Key: "z"})}}, false},
		"an end of it":       {[]impl.State{{Pairs: there.Pairs[1:]}}, false},
		"other keys":         {[]impl.State{state(impl.Pair{Key: "a", Value: "1"}, impl.Pair{Key: "c", Value: text(70)})}, false},
		"each pair, but not": {[]impl.State{{Pairs: there.Pairs[:1]}, {Pairs: there.Pairs[1:]}}, false},
	} {
		x := copiedWorld(w)
		x.Past = c.past
		if got := impl.Right(x); got != c.want {
			t.Errorf("%s: %v", name, got)
		}
	}
}

func TestForged(t *testing.T) {
	w := worlds()["moved"]
	if f := impl.Forged(w); f != "" {
		t.Errorf("nothing forged: %q", f)
	}
	// Each sector that reads as a page, were it not written, the first of them if several were not.
	for at, s := range w.Disk.Sectors {
		if _, reads := impl.ReadPage(s, 8); !reads {
			continue
		}
		x := copiedWorld(w)
		x.Written = slices.DeleteFunc(x.Written, func(other string) bool { return other == s })
		if f := impl.Forged(x); f != s {
			t.Errorf("sector %d: %q", at, f)
		}
	}
	for _, first := range []int{0, 5, 13} {
		x := copiedWorld(w)
		x.Disk.Sectors[first] = last(9, 9, "forged")
		if f := impl.Forged(x); f != x.Disk.Sectors[first] {
			t.Errorf("sector %d: %q", first, f)
		}
		x.Disk.Sectors[13] = life(7, 7)
		if f := impl.Forged(x); f != x.Disk.Sectors[first] {
			t.Errorf("sector %d and the last one: %q", first, f)
		}
		x.Written = append(x.Written, last(9, 9, "forged"))
		want := life(7, 7)
		if f := impl.Forged(x); f != want {
			t.Errorf("sector %d written, the last one not: %q", first, f)
		}
		x.Written = append([]string{want}, x.Written...)
		if f := impl.Forged(x); f != "" {
			t.Errorf("both written: %q", f)
		}
	}
}

func TestWhatIsNotForged(t *testing.T) {
	w := worlds()["moved"]
	for name, s := range map[string]string{
		"no page":              filled('x'),
		"zeros":                filled(0),
		"another width":        formOf(impl.Page{Kind: impl.PageLast, Life: 1, Number: 1, Part: "a"}, 7),
		"a byte that is wrong": last(1, 1, "a")[:63] + "x",
		"a torn page":          last(1, 1, "abc")[:17] + filled(0)[17:],
	} {
		x := copiedWorld(w)
		x.Disk.Sectors[0], x.Disk.Sectors[13] = s, s
		if f := impl.Forged(x); f != "" {
			t.Errorf("%s: %q", name, f)
		}
	}
	// A page that is pending stands on no sector yet; one that was written stands wherever it is.
	x := copiedWorld(w)
	x.Disk.Pending = append(x.Disk.Pending, impl.Write{At: 13, Data: life(7, 7)})
	if f := impl.Forged(x); f != "" {
		t.Errorf("pending: %q", f)
	}
	x.Disk.Sectors[13] = x.Disk.Sectors[2]
	if f := impl.Forged(x); f != "" {
		t.Errorf("elsewhere: %q", f)
	}
	// What is pending does not hide what stands on the sector below it.
	x.Disk.Sectors[13] = life(8, 8)
	if f := impl.Forged(x); f != life(8, 8) {
		t.Errorf("below what is pending: %q", f)
	}
}

// scribbleWorld writes over all of a world's lists, the room behind them too.
func scribbleWorld(w impl.World) {
	scribble(w.Disk)
	overwrite(w.Store.State.Pairs, impl.Pair{Key: "over"})
	for _, s := range w.Past[:cap(w.Past)] {
		overwrite(s.Pairs, impl.Pair{Key: "over"})
	}
	overwrite(w.Past, impl.State{})
	overwrite(w.Written, "over")
}

// markedWorld says whether the room behind the lists of a copied world is as it was.
func markedWorld(w impl.World) bool {
	for _, s := range append([]impl.State{w.Store.State}, w.Past...) {
		if n := len(s.Pairs); s.Pairs[:n+1][n].Key != "mark" {
			return false
		}
	}
	n, m := len(w.Past), len(w.Written)
	return marked(w.Disk) && sameState(w.Past[:n+1][n], one("mark", "")) && w.Written[:m+1][m] == "mark"
}

func TestTheWorldWritesIntoNoArgumentAndSharesNothing(t *testing.T) {
	batch := []impl.Change{{Key: "zz", Value: "new"}, {Key: "a", Gone: true}}
	for name, w := range worlds() {
		given := copiedWorld(w)
		b := spare(batch, impl.Change{Key: "mark"})
		fates := spare([]int{64, 30, -1, 70}, -77)
		for kind := 0; kind <= 6; kind++ {
			for cut := -1; cut <= 4; cut++ {
				e := impl.Event{Kind: kind, Batch: b, Cut: cut, Fates: fates}
				first := impl.Do(given, e)
				want := copiedWorld(impl.Do(given, e))
				scribbleWorld(first)
				if !sameWorld(given, w) || !markedWorld(given) {
					t.Fatalf("%s, kind %d, cut %d: the world was changed", name, kind, cut)
				}
				if !slices.Equal(b, batch) || b[:3][2].Key != "mark" || !slices.Equal(fates[:5], []int{64, 30, -1, 70, -77}) {
					t.Fatalf("%s, kind %d, cut %d: the event was changed", name, kind, cut)
				}
				if got := impl.Do(given, e); !sameWorld(got, want) {
					t.Fatalf("%s, kind %d, cut %d: the second answer is not the first", name, kind, cut)
				}
			}
		}
		found, _ := impl.Found(given)
		want, _ := impl.Found(w)
		overwrite(found.Pairs, impl.Pair{Key: "over"})
		impl.Right(given)
		impl.Forged(given)
		if again, _ := impl.Found(given); !sameState(again, want) || !sameWorld(given, w) || !markedWorld(given) {
			t.Fatalf("%s: found", name)
		}
	}
	first := impl.NewWorld(8, 8)
	scribbleWorld(first)
	if again := impl.NewWorld(8, 8); !impl.ValidWorld(again) || !isNothingState(again.Past[0]) {
		t.Error("a new world that is not new")
	}
}

// The lists of one answer share nothing: writing over one of them leaves the others.
func TestNoTwoListsOfAWorldShareMemory(t *testing.T) {
	for name, w := range worlds() {
		// One list of pairs stands in all places of the argument that may hold it.
		if w.Up {
			w.Past = []impl.State{w.Store.State, w.Store.State, {Pairs: w.Store.State.Pairs[:len(w.Store.State.Pairs)/2]}}
		}
		for kind := 0; kind <= 5; kind++ {
			for cut := -1; cut <= 2; cut++ {
				e := impl.Event{Kind: kind, Batch: put("zz", "new"), Cut: cut}
				want := impl.Do(w, e)
				for at := range len(want.Past) + 1 {
					got := impl.Do(w, e)
					lists := append([]impl.State{got.Store.State}, got.Past...)
					overwrite(lists[at].Pairs, impl.Pair{Key: "over"})
					for i, s := range append([]impl.State{want.Store.State}, want.Past...) {
						if i != at && !sameState(lists[i], s) {
							t.Fatalf("%s, kind %d, cut %d: lists %d and %d share memory", name, kind, cut, at, i)
						}
					}
				}
			}
		}
	}
}
