package tests

import (
	"slices"
	"strconv"
	"testing"

	"loop.example/kilnstone/impl"
)

// history leads a world through events and tells a second time, by the batches alone, what may be found in it.
type history struct {
	t      *testing.T
	dice   *dice
	world  impl.World
	chain  []impl.State // the first state, and the one behind each batch that was committed and is not lost
	safe   int          // the place of the last of them that is known to be safe
	forged bool         // whether a sector was forged behind some event
	seen   map[string]int
}

func historyOf(t *testing.T, r *dice, w impl.World, seen map[string]int) *history {
	return &history{t: t, dice: r, world: w, chain: slices.Clone(w.Past), seen: seen}
}

func (h *history) fail(why string) {
	h.t.Helper()
	found, code := impl.Found(h.world)
	h.t.Fatalf("%s: %s\nwidth %d, %d sectors, found %+v, %d", why, brief(h.world), h.world.Width, len(h.world.Disk.Sectors), found, code)
}

// fates have whole sectors, lost ones and torn ones, the tears mostly where pages hold something.
func (h *history) fates() []int {
	var fates []int
	for range h.dice.roll(2 + len(h.world.Disk.Pending) + h.dice.roll(6)) {
		fates = append(fates, []int{0, 64, 64, h.dice.roll(66), h.dice.roll(24)}[h.dice.roll(5)])
	}
	return fates
}

// batch has few keys and values that do not come again, so that no two states are the same by chance.
func (h *history) batch() []impl.Change {
	var b []impl.Change
	for range 1 + h.dice.roll(1+h.dice.roll(5)) {
		c := impl.Change{Key: string([]byte{byte('a' + h.dice.roll(min(26, len(h.world.Disk.Sectors)/3)))}), Gone: h.dice.roll(5) == 0}
		if !c.Gone {
			h.seen["values"]++
			c.Value = strconv.Itoa(h.seen["values"]) + text(h.dice.roll(1+h.dice.roll(60)))
		}
		b = append(b, c)
	}
	return b
}

// event is one that can happen, mostly.
func (h *history) event() impl.Event {
	e := impl.Event{Kind: impl.EvOpen, Cut: -1, Fates: h.fates()}
	if h.world.Up {
		e.Kind = []int{impl.EvFlush, impl.EvCompact, impl.EvPower, impl.EvCommit}[min(3, h.dice.roll(11))]
		e.Batch = h.batch()
		if impl.Commit(h.world.Store, e.Batch).Code == 4 && h.dice.roll(4) > 0 {
			e.Kind = impl.EvPower - h.dice.roll(2)
		}
	}
	if h.dice.roll(4) == 0 {
		e.Cut = h.dice.roll(1 + h.dice.roll(9))
	}
	if h.dice.roll(50) == 0 {
		e.Kind = h.dice.roll(7)
	}
	return e
}

func (h *history) step(e impl.Event) {
	h.t.Helper()
	before := h.world
	if len(before.Disk.Sectors) <= 24 {
		h.world = isDone(h.t, "run", before, e)
	} else {
		h.world = impl.Do(before, e)
	}
	h.seen["events"]++
	if !before.Up && h.world.Up && h.world.Store.Root.Turn > impl.FindRoot(before.Disk, before.Width).Turn {
		h.seen["moved by Open"]++
	}
	h.follow(before, e)
	h.forged = h.forged || impl.Forged(h.world) != ""
	h.safety()
	h.past(before, e)
	if h.forged {
		h.seen["forged"]++
		return
	}
	h.found()
	h.openedAgain()
	h.compacted()
}

// follow tells what the event has done to the chain.
func (h *history) follow(before impl.World, e impl.Event) {
	h.t.Helper()
	switch {
	case sameWorld(before, h.world) && e.Kind != impl.EvFlush:
		h.seen["nothing happened"]++
	case e.Kind == impl.EvCommit:
		after, code := applyModel(h.chain[len(h.chain)-1], e.Batch)
		if code != 0 {
			h.fail("a batch that can't be applied was committed")
		}
		h.chain = append(h.chain, after)
	case e.Kind == impl.EvOpen && h.world.Up:
		at := h.place(h.world.Store.State)
		if at < 0 && !h.forged {
			h.fail("opened in a state that never was")
		}
		if at < 0 {
			h.chain, at = []impl.State{h.world.Store.State}, 0
		}
		h.seen["batches lost"] += len(h.chain) - 1 - at
		h.chain, h.safe = h.chain[:at+1], at
	case (e.Kind == impl.EvFlush || e.Kind == impl.EvCompact) && h.world.Up:
		h.safe = len(h.chain) - 1
	}
}

// place is the last place of a state in the chain, below 0 if it is not there.
func (h *history) place(s impl.State) int {
	for at := len(h.chain) - 1; at >= 0; at-- {
		if sameState(h.chain[at], s) {
			return at
		}
	}
	return -1
}

// safety is P8.
func (h *history) safety() {
	h.t.Helper()
	// From a new world no limit can be come to.
	if impl.Right(h.world) || !belowLimits(h.world) {
		return
	}
	h.seen["wrong"]++
	if impl.Forged(h.world) == "" {
		h.fail("neither right nor forged")
	}
}

// past is P9.
func (h *history) past(before impl.World, e impl.Event) {
	h.t.Helper()
	w := h.world
	if w.Up && !sameState(w.Past[len(w.Past)-1], w.Store.State) {
		h.fail("the last of Past is not the store's State")
	}
	ended := w.Up && (e.Kind == impl.EvFlush || e.Kind == impl.EvCompact && !sameWorld(before, w))
	if ended && !samePast(w.Past, []impl.State{w.Store.State}) {
		h.fail("Past behind a flush or a compaction")
	}
}

// found is P10, P11 and P12.
func (h *history) found() {
	h.t.Helper()
	s, code := impl.Found(h.world)
	if code != 0 && belowLimits(h.world) {
		h.fail("it can't be opened")
	}
	if code != 0 {
		h.seen["past the limits"]++
		return
	}
	at := h.place(s)
	if at < 0 {
		h.fail("no beginning of the batches is found")
	}
	if at < h.safe {
		h.fail("what was safe is missed")
	}
	if !samePast(h.world.Past, h.chain[h.safe:]) {
		h.fail("Past is not what may be found")
	}
	h.seen["found"]++
}

// belowLimits says whether P12 asks that the map can be opened.
func belowLimits(w impl.World) bool {
	d := impl.PowerLoss(w.Disk, nil)
	root := impl.FindRoot(d, w.Width)
	half := impl.Halves(len(d.Sectors))
	log := impl.Scan(d, 2+root.Half*half, half, root.First, root.Life, w.Width)
	return log.Life <= impl.MaxLife-2 && root.Turn <= impl.MaxNumber-2 && root.First <= impl.MaxFirst-200
}

// openedAgain is P14: Open is cut short, and what is left of that again.
func (h *history) openedAgain() {
	h.t.Helper()
	if h.world.Up {
		return
	}
	before, code := impl.Found(h.world)
	x := h.world
	for range 4 {
		ops := impl.Open(x.Disk, x.Width).Ops
		x = impl.Do(x, impl.Event{Kind: impl.EvOpen, Cut: h.dice.roll(len(ops) + 1), Fates: h.fates()})
		if impl.Forged(x) != "" {
			return
		}
		after, again := impl.Found(x)
		if x.Up || !samePast(x.Past, h.world.Past) {
			h.fail("Past behind an Open that was cut short")
		}
		if (again != code || !sameState(before, after)) && belowLimits(x) {
			h.fail("found otherwise behind an Open that was cut short")
		}
		h.seen["opened again"]++
	}
}

// compacted is P13.
func (h *history) compacted() {
	h.t.Helper()
	if !h.world.Up || h.dice.roll(4) > 0 {
		return
	}
	s := h.world.Store
	ops := impl.Compact(s).Ops
	for _, cut := range []int{-1, len(ops)} {
		x := impl.Do(h.world, impl.Event{Kind: impl.EvCompact, Cut: cut})
		if sameWorld(x, h.world) {
			return
		}
		if found, code := impl.Found(x); (code != 0 || !sameState(found, s.State)) && belowLimits(x) {
			h.fail("compaction can be seen")
		}
		half := impl.Halves(s.Sectors)
		if cut < 0 && (!sameState(x.Store.State, s.State) || half-x.Store.Used < half-1-impl.Room(s.State, s.Width)) {
			h.fail("compaction")
		}
		h.seen["compacted"]++
	}
}

// P8 to P14, behind each event of long runs
func TestLongRuns(t *testing.T) {
	r := dice(30)
	for _, width := range []int{1, 2, 4, 8} {
		seen := map[string]int{}
		for _, sectors := range []int{8, 8, 9, 10, 10, 11, 13, 16, 20, 24, 31, 60, 200} {
			// Few of the torn pages have a right sum of one byte.
			for range 1 + 4/width {
				h := historyOf(t, &r, impl.NewWorld(sectors, width), seen)
				for range 150 {
					h.step(h.event())
				}
			}
		}
		for name, least := range map[string]int{"events": 1900, "found": 500, "opened again": 500, "compacted": 100, "batches lost": 50, "moved by Open": 5, "nothing happened": 50} {
			if seen[name] < least {
				t.Errorf("width %d, %s: %v", width, name, seen)
			}
		}
		if width > 2 && seen["forged"] > 0 || width == 1 && seen["forged"] == 0 {
			t.Errorf("width %d: %v", width, seen)
		}
	}
}

// P8 and P9, in worlds in which many sectors are torn and one sum of 256 is right by chance
func TestRunsWithForgedSectors(t *testing.T) {
	r := dice(34)
	seen := map[string]int{}
	for round := range 400 {
		h := historyOf(t, &r, impl.NewWorld(8+round%6, 1), seen)
		for range 120 {
			e := h.event()
			if r.roll(3) == 0 {
				e.Cut = r.roll(4)
			}
			e.Fates = nil
			for range 9 {
				e.Fates = append(e.Fates, r.roll(40))
			}
			before := h.world
			h.world = impl.Do(before, e)
			h.safety()
			h.past(before, e)
			if impl.Forged(h.world) != "" {
				seen["forged"]++
			}
		}
	}
	if seen["forged"] < 100 || seen["wrong"] < 30 {
		t.Errorf("%v", seen)
	}
}

// Behind so many writes that no more can be remembered nothing is broken.
func TestARunUntilNoMoreCanBeWritten(t *testing.T) {
	r := dice(31)
	seen := map[string]int{}
	h := historyOf(t, &r, impl.NewWorld(12, 8), seen)
	for len(h.world.Written) < impl.MaxWritten-5 {
		if seen["events"] > 5000 {
			t.Fatalf("%d written", len(h.world.Written))
		}
		h.step(h.event())
	}
	for range 150 {
		h.step(h.event())
	}
	if len(h.world.Written) != impl.MaxWritten || h.forged || seen["found"] != seen["events"] {
		t.Errorf("%d written, %v", len(h.world.Written), seen)
	}
}

// nearTheEnd is a world whose Life, Turn and First are so far below what there can be.
func nearTheEnd(lives, turns, firsts int) impl.World {
	first, number := impl.MaxFirst-firsts, impl.MaxNumber-turns
	pages := []string{life(impl.MaxLife-lives, first), last(impl.MaxLife-lives, first+1, batchForm(put("a", "1")))}
	r := impl.Root{Turn: number, Half: 1, First: first, Life: impl.MaxLife - lives}
	w := impl.NewWorld(10, 8)
	w.Disk = laid(laid(w.Disk, 6, pages...), number%2, rootForm(r, 8))
	w.Past, w.Written = []impl.State{one("a", "1")}, append(pages, rootForm(r, 8))
	return w
}

// P12
func TestRunsUpToTheLimits(t *testing.T) {
	r := dice(32)
	seen := map[string]int{}
	for round := range 60 {
		w := nearTheEnd(1000, 1000, 100000)
		switch round % 3 {
		case 0:
			w = nearTheEnd(r.roll(12), 1000, 100000)
		case 1:
			w = nearTheEnd(1000, r.roll(6), 100000)
		case 2:
			w = nearTheEnd(1000, 1000, 200+r.roll(6))
		}
		h := historyOf(t, &r, w, seen)
		for range 60 {
			h.step(h.event())
		}
	}
	if seen["past the limits"] < 100 || seen["found"] < 1000 || seen["forged"] > 0 {
		t.Errorf("%v", seen)
	}
}

// P12: the limits themselves, and that the map can't always be opened behind them.
func TestTheLimitsOfOpening(t *testing.T) {
	for _, c := range []struct{ lives, turns, firsts, code int }{
		{2, 1000, 100000, 0}, {1, 1000, 100000, 0}, {0, 1000, 100000, 3}, {1000, 2, 100000, 0}, {1000, 0, 100000, 0}, {1000, 1000, 200, 0}, {2, 2, 200, 0},
	} {
		w := nearTheEnd(c.lives, c.turns, c.firsts)
		s, code := impl.Found(w)
		if !impl.ValidWorld(w) || code != c.code || code == 0 && !sameState(s, one("a", "1")) || impl.Forged(w) != "" || impl.Right(w) != (code == 0) {
			t.Errorf("%+v: %+v, %d", c, s, code)
		}
		got := impl.Do(w, all(impl.EvOpen))
		if got.Up != (c.code == 0) || sameWorld(got, w) == got.Up {
			t.Errorf("%+v: %s", c, brief(got))
		}
	}
}

// tears are all fates of one write, and some of those around it.
func tears() [][]int {
	var fates [][]int
	for at := range 3 {
		for tear := 0; tear <= 65; tear++ {
			for _, others := range []int{0, 13, 64} {
				some := []int{others, others, others}
				some[at] = tear
				fates = append(fates, some)
			}
		}
	}
	return fates
}

// P11: a batch of two pages behind one of one page, torn in every way.
func TestABatchIsFoundWholeOrNotAtAll(t *testing.T) {
	open := led(impl.NewWorld(12, 8), all(impl.EvOpen), commit(put("z", "0")), all(impl.EvFlush))
	long := []impl.Change{{Key: "b", Value: text(30)}, {Key: "z", Gone: true}, {Key: "c", Value: text(40)}}
	first, _ := applyModel(one("z", "0"), put("a", "1"))
	second, _ := applyModel(first, long)
	w := led(open, commit(put("a", "1")), commit(long))
	if len(w.Disk.Pending) != 3 || !samePast(w.Past, []impl.State{one("z", "0"), first, second}) {
		t.Fatalf("%s", brief(w))
	}
	counts := map[int]int{}
	for _, fates := range tears() {
		x := impl.Do(w, impl.Event{Kind: impl.EvPower, Fates: fates})
		whole := 0
		for whole < 3 && (x.Disk.Sectors[4+whole] == w.Disk.Pending[whole].Data) {
			whole++
		}
		want := []impl.State{one("z", "0"), first, first, second}[whole]
		s, code := impl.Found(x)
		if code != 0 || !sameState(s, want) || !impl.Right(x) || impl.Forged(x) != "" {
			t.Fatalf("fates %v: %+v, %d", fates, s, code)
		}
		counts[whole]++
	}
	if len(counts) != 4 {
		t.Errorf("%v", counts)
	}
}

// P10: what was flushed stays, whatever is lost behind it, until a later batch changes it.
func TestWhatWasFlushedStays(t *testing.T) {
	r := dice(33)
	for _, sectors := range []int{8, 12, 40} {
		w := led(impl.NewWorld(sectors, 8), all(impl.EvOpen), commit(put("a", "flushed")), all(impl.EvFlush))
		for round := range 120 {
			// Batches that leave a alone, and all ways to lose power; at times the half is full and nothing happens.
			w = led(w, commit(put("b", strconv.Itoa(round))))
			e := impl.Event{Kind: []int{impl.EvPower, impl.EvCommit, impl.EvFlush, impl.EvCompact}[r.roll(4)], Batch: put("c", strconv.Itoa(round)), Cut: r.roll(6), Fates: someFates(&r, r.roll(6))}
			w = impl.Do(w, e)
			if s, code := impl.Found(w); code != 0 || len(s.Pairs) == 0 || s.Pairs[0] != (impl.Pair{Key: "a", Value: "flushed"}) {
				t.Fatalf("%d sectors, round %d: %+v, %d", sectors, round, s, code)
			}
			w = led(w, impl.Event{Kind: impl.EvOpen, Cut: r.roll(7), Fates: someFates(&r, 5)}, all(impl.EvOpen))
			if value, ok := impl.Get(w.Past[len(w.Past)-1], "a"); !ok || value != "flushed" {
				t.Fatalf("%d sectors, round %d: %q", sectors, round, value)
			}
		}
		// The state of a later batch may be found, or that of the flush.
		x := led(w, all(impl.EvCompact), commit(put("a", "later")))
		if got, _ := impl.Found(impl.Do(x, impl.Event{Kind: impl.EvPower, Fates: []int{64}})); got.Pairs[0].Value != "later" {
			t.Errorf("%d sectors: %+v", sectors, got)
		}
		if got, _ := impl.Found(impl.Do(x, impl.Event{Kind: impl.EvPower, Fates: []int{20}})); got.Pairs[0].Value != "flushed" {
			t.Errorf("%d sectors: %+v", sectors, got)
		}
	}
}

// P14: Open is cut short again and again, at each op and with each tear, also where it moves the state.
func TestOpenCutShortAgainAndAgain(t *testing.T) {
	down := worlds()
	full := led(impl.NewWorld(8, 8), all(impl.EvOpen), commit(put("a", "1")), commit(put("a", "2")), impl.Event{Kind: impl.EvFlush, Cut: 1})
	again := led(full, all(impl.EvOpen), commit(put("b", "3")), impl.Event{Kind: impl.EvPower, Fates: []int{64}})
	for name, w := range map[string]impl.World{"new": down["new"], "torn": down["torn"], "moved": down["moved, down"], "it moves": full, "it moves back": again} {
		want, code := impl.Found(w)
		if w.Up || code != 0 || impl.Open(w.Disk, 8).Code != 0 {
			t.Fatalf("%s: %s", name, brief(w))
		}
		x := w
		for tear := 0; tear <= 65; tear++ {
			for cut := 0; cut <= len(impl.Open(x.Disk, 8).Ops); cut++ {
				x = isDone(t, name, x, impl.Event{Kind: impl.EvOpen, Cut: cut, Fates: []int{tear, 64 - tear, tear / 2, 7}})
				got, code := impl.Found(x)
				if code != 0 || !sameState(got, want) || !samePast(x.Past, w.Past) || impl.Forged(x) != "" || x.Up {
					t.Fatalf("%s, tear %d, cut %d: %+v, %d", name, tear, cut, got, code)
				}
			}
		}
		end := impl.Do(x, all(impl.EvOpen))
		if !end.Up || !samePast(end.Past, []impl.State{want}) || !sameState(end.Store.State, want) {
			t.Errorf("%s: %s", name, brief(end))
		}
	}
}

// P8: with a sum of one byte some torn pages read as pages; what is wrong then is shown.
func TestATornPageWithARightSumIsShown(t *testing.T) {
	wrong, code2, harmless := 0, 0, 0
	for round := range 400 {
		w := led(impl.NewWorld(8, 1), all(impl.EvOpen))
		value := "value " + strconv.Itoa(round)
		for tear := 0; tear <= impl.SectorSize; tear++ {
			x := impl.Do(w, impl.Event{Kind: impl.EvCommit, Batch: put("a", value), Cut: 1, Fates: []int{tear}})
			page := x.Disk.Sectors[3]
			_, reads := impl.ReadPage(page, 1)
			torn := reads && page != x.Written[1]
			if torn != (impl.Forged(x) == page) || !torn && impl.Forged(x) != "" {
				t.Fatalf("round %d, tear %d: %q", round, tear, impl.Forged(x))
			}
			s, code := impl.Found(x)
			right := code == 0 && (isNothingState(s) || sameState(s, one("a", value)))
			if right != impl.Right(x) || !right && !torn {
				t.Fatalf("round %d, tear %d: %+v, %d, right %v", round, tear, s, code, impl.Right(x))
			}
			switch {
			case torn && right:
				harmless++
			case !right && code == 2:
				code2++
			case !right:
				wrong++
			}
		}
	}
	if wrong < 5 || code2 < 2 {
		t.Errorf("wrong %d, no batch %d, harmless %d", wrong, code2, harmless)
	}
}

// A forged sector that was opened with is what the map holds from then on.
func TestOpeningWithAForgedSector(t *testing.T) {
	w := led(impl.NewWorld(8, 1), all(impl.EvOpen))
	x := impl.Do(w, impl.Event{Kind: impl.EvCommit, Batch: put("a", "value5"), Cut: 1, Fates: []int{13}})
	zeros := one("a", "\x00\x00\x00\x00\x00\x00")
	if s, code := impl.Found(x); code != 0 || !sameState(s, zeros) || impl.Right(x) || impl.Forged(x) != x.Disk.Sectors[3] {
		t.Fatalf("%+v, %d, %q", s, code, impl.Forged(x))
	}
	open := impl.Do(x, all(impl.EvOpen))
	if !samePast(open.Past, []impl.State{zeros}) || !impl.Right(open) || impl.Forged(open) == "" {
		t.Errorf("%s", brief(open))
	}
	cut := impl.Do(x, impl.Event{Kind: impl.EvOpen, Cut: 2})
	if !samePast(cut.Past, x.Past) || impl.Right(cut) || impl.Forged(cut) == "" {
		t.Errorf("%s", brief(cut))
	}
}
