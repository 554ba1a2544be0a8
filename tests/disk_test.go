package tests

import (
	"math"
	"reflect"
	"strings"
	"testing"

	"loop.example/kilnstone/impl"
)

// dice is a row of numbers that is the same at every run.
type dice uint64

func (d *dice) roll(below int) int {
	*d = *d*6364136223846793005 + 1442695040888963407
	return int(uint64(*d)>>33) % below
}

func filled(b byte) string {
	return strings.Repeat(string([]byte{b}), impl.SectorSize)
}

// sameDisk holds two disks against each other; the nil list is the empty list.
func sameDisk(a, b impl.Disk) bool {
	if len(a.Sectors) != len(b.Sectors) || len(a.Pending) != len(b.Pending) {
		return false
	}
	for i := range a.Sectors {
		if a.Sectors[i] != b.Sectors[i] {
			return false
		}
	}
	for i := range a.Pending {
		if a.Pending[i] != b.Pending[i] {
			return false
		}
	}
	return true
}

func isNothing(d impl.Disk) bool {
	return len(d.Sectors) == 0 && len(d.Pending) == 0
}

// copied is the same disk in other memory, with room behind its lists that holds marks.
func copied(d impl.Disk) impl.Disk {
	sectors := append(append([]string{}, d.Sectors...), "mark", "mark")
	pending := append(append([]impl.Write{}, d.Pending...), impl.Write{At: -7, Data: "mark"})
	return impl.Disk{Sectors: sectors[:len(d.Sectors)], Pending: pending[:len(d.Pending)]}
}

// marked says whether the room behind the lists of a copied disk is as it was.
func marked(d impl.Disk) bool {
	n, m := len(d.Sectors), len(d.Pending)
	return d.Sectors[:n+2][n] == "mark" && d.Sectors[:n+2][n+1] == "mark" && d.Pending[:m+1][m] == impl.Write{At: -7, Data: "mark"}
}

// plainDisk is a disk of so many sectors with so many writes pending, each with bytes of its own.
func plainDisk(sectors, pending int) impl.Disk {
	var d impl.Disk
	for i := 0; i < sectors; i++ {
		d.Sectors = append(d.Sectors, filled(byte(i)))
	}
	for i := 0; i < pending; i++ {
		d.Pending = append(d.Pending, impl.Write{At: i % sectors, Data: filled(byte(100 + i))})
	}
	return d
}

// brokenDisks are disks that each miss being valid by one thing.
func brokenDisks() map[string]impl.Disk {
	all := map[string]impl.Disk{
		"nothing":          {},
		"7 sectors":        plainDisk(7, 0),
		"201 sectors":      plainDisk(201, 0),
		"301 pending":      plainDisk(8, 301),
		"pending alone":    {Pending: plainDisk(8, 1).Pending},
		"short sector":     plainDisk(8, 2),
		"long sector":      plainDisk(8, 2),
		"empty sector":     plainDisk(8, 0),
		"pending below 0":  plainDisk(8, 2),
		"pending too high": plainDisk(8, 2),
		"far too high":     plainDisk(8, 2),
		"short data":       plainDisk(8, 2),
		"long data":        plainDisk(8, 2),
		"empty data":       plainDisk(8, 2),
	}
	all["short sector"].Sectors[7] = filled('x')[1:]
	all["long sector"].Sectors[0] = filled('x') + "x"
	all["empty sector"].Sectors[3] = ""
	all["pending below 0"].Pending[1].At = -1
	all["pending too high"].Pending[1].At = 8
	all["far too high"].Pending[0].At = math.MaxInt
	all["short data"].Pending[1].Data = filled('x')[1:]
	all["long data"].Pending[0].Data = filled('x') + "x"
	all["empty data"].Pending[1].Data = ""
	return all
}

func TestNewDisk(t *testing.T) {
	for _, n := range []int{8, 9, 40, 199, 200} {
		d := impl.NewDisk(n)
		if len(d.Sectors) != n || len(d.Pending) != 0 || !impl.ValidDisk(d) {
			t.Errorf("%d sectors: %d, pending %d", n, len(d.Sectors), len(d.Pending))
		}
		for i, s := range d.Sectors {
			if s != filled(0) || impl.Sector(d, i) != s {
				t.Errorf("sector %d of %d: %q", i, n, s)
			}
		}
	}
	for _, n := range []int{7, 201, 0, -1, -8, math.MinInt, math.MaxInt} {
		if !isNothing(impl.NewDisk(n)) {
			t.Errorf("a disk of %d sectors", n)
		}
	}
}

func TestValidDisk(t *testing.T) {
	for _, d := range []impl.Disk{plainDisk(8, 0), plainDisk(200, 0), plainDisk(8, 300), plainDisk(200, 300), {Sectors: plainDisk(8, 0).Sectors, Pending: []impl.Write{}}} {
		if !impl.ValidDisk(d) {
			t.Errorf("%d sectors, %d pending: not valid", len(d.Sectors), len(d.Pending))
		}
	}
	for name, d := range brokenDisks() {
		if impl.ValidDisk(d) {
			t.Errorf("%s: valid", name)
		}
	}
}

func TestNothingOfADiskThatIsNotValid(t *testing.T) {
	sync := []impl.Op{{Sync: true}}
	for name, d := range brokenDisks() {
		if impl.Sector(d, 0) != "" || impl.Sector(d, -1) != "" || impl.Sector(d, 500) != "" {
			t.Errorf("%s: a sector", name)
		}
		for _, n := range []int{-1, 0, 1, 2} {
			if !isNothing(impl.Perform(d, sync, n)) || !isNothing(impl.Perform(d, nil, n)) {
				t.Errorf("%s: performed, n %d", name, n)
			}
		}
		if !isNothing(impl.PowerLoss(d, nil)) || !isNothing(impl.PowerLoss(d, []int{64, 64})) {
			t.Errorf("%s: power lost", name)
		}
	}
}

func TestSectorIsTheLastOfPending(t *testing.T) {
	d := plainDisk(8, 0)
	d.Pending = []impl.Write{{At: 7, Data: filled('a')}, {At: 0, Data: filled('b')}, {At: 7, Data: filled('c')}, {At: 0, Data: filled('d')}, {At: 3, Data: filled('e')}}
	want := []string{filled('d'), filled(1), filled(2), filled('e'), filled(4), filled(5), filled(6), filled('c')}
	for at, s := range want {
		if got := impl.Sector(d, at); got != s {
			t.Errorf("sector %d: %q", at, got)
		}
	}
	for _, at := range []int{-1, 8, 9, 200, math.MinInt, math.MaxInt} {
		if got := impl.Sector(d, at); got != "" {
			t.Errorf("sector %d: %q", at, got)
		}
	}
}

func TestPerformDoesTheFirstOps(t *testing.T) {
	d := plainDisk(8, 1)
	ops := []impl.Op{{At: 1, Data: filled('a')}, {Sync: true}, {At: 1, Data: filled('b')}}
	behind := []impl.Disk{d, d, d, d}
	behind[1] = impl.Disk{Sectors: d.Sectors, Pending: []impl.Write{d.Pending[0], {At: 1, Data: filled('a')}}}
	safe := append([]string{}, d.Sectors...)
	safe[0], safe[1] = d.Pending[0].Data, filled('a')
	behind[2] = impl.Disk{Sectors: safe}
	behind[3] = impl.Disk{Sectors: safe, Pending: []impl.Write{{At: 1, Data: filled('b')}}}
	for n, at := range map[int]int{math.MinInt: 0, -1: 0, 0: 0, 1: 1, 2: 2, 3: 3, 4: 3, math.MaxInt: 3} {
		if got := impl.Perform(d, ops, n); !sameDisk(got, behind[at]) {
			t.Errorf("n %d: %+v", n, got.Pending)
		}
	}
}

func TestPerformPassesOverWhatCannotBeWritten(t *testing.T) {
	for _, d := range []impl.Disk{plainDisk(8, 0), plainDisk(8, 5), plainDisk(200, 299)} {
		n := len(d.Sectors)
		for _, op := range []impl.Op{
			{At: -1, Data: filled('x')}, {At: n, Data: filled('x')}, {At: math.MaxInt, Data: filled('x')}, {At: math.MinInt, Data: filled('x')},
			{}, {At: 1, Data: ""}, {At: 1, Data: filled('x')[1:]}, {At: 1, Data: filled('x') + "x"},
		} {
			if got := impl.Perform(d, []impl.Op{op}, 1); !sameDisk(got, d) {
				t.Errorf("%d sectors, op %+v: something happened", n, op)
			}
		}
		last := impl.Op{At: n - 1, Data: filled('y')}
		if got := impl.Perform(d, []impl.Op{{At: n, Data: filled('x')}, last}, 2); impl.Sector(got, n-1) != last.Data || len(got.Pending) != len(d.Pending)+1 {
			t.Errorf("%d sectors: the op behind one that can't be done", n)
		}
	}
}

func TestPerformWithPendingFull(t *testing.T) {
	ops := []impl.Op{{At: 1, Data: filled('x')}, {At: 1, Data: filled('y')}, {Sync: true}, {At: 1, Data: filled('z')}}
	one := impl.Perform(plainDisk(8, 299), ops, 1)
	if len(one.Pending) != 300 || impl.Sector(one, 1) != filled('x') || !impl.ValidDisk(one) {
		t.Errorf("the last that has room: %d", len(one.Pending))
	}
	if two := impl.Perform(plainDisk(8, 299), ops, 2); !sameDisk(one, two) {
		t.Errorf("one too many: %d", len(two.Pending))
	}
	four := impl.Perform(plainDisk(8, 300), ops, 4)
	if len(four.Pending) != 1 || impl.Sector(four, 1) != filled('z') || four.Sectors[1] != plainDisk(8, 300).Pending[297].Data {
		t.Errorf("room again behind a sync: %d", len(four.Pending))
	}
}

func TestASyncIsASyncWhateverElseItHolds(t *testing.T) {
	d := plainDisk(8, 20)
	want := impl.Perform(d, []impl.Op{{Sync: true}}, 1)
	if len(want.Pending) != 0 || want.Sectors[3] != d.Pending[19].Data || want.Sectors[7] != d.Pending[15].Data {
		t.Errorf("%q", want.Sectors)
	}
	for _, op := range []impl.Op{{Sync: true, At: 3, Data: filled('x')}, {Sync: true, At: -1, Data: "x"}, {Sync: true, At: 8}} {
		if got := impl.Perform(d, []impl.Op{op}, 1); !sameDisk(got, want) {
			t.Errorf("%+v", op)
		}
	}
}

func TestPowerLossTearsInOrder(t *testing.T) {
	d := plainDisk(8, 0)
	d.Pending = []impl.Write{{At: 2, Data: filled('a')}, {At: 2, Data: filled('b')}, {At: 5, Data: filled('c')}, {At: 2, Data: filled('d')}}
	old2, old5 := filled(2), filled(5)
	for _, c := range []struct {
		fates      []int
		two, fifth string
	}{
		{nil, old2, old5},
		{[]int{}, old2, old5},
		{[]int{0, 0, 0, 0}, old2, old5},
		{[]int{-1, math.MinInt, -64, -1}, old2, old5},
		{[]int{64}, filled('a'), old5},
		{[]int{64, 63}, filled('b')[:63] + "a", old5},
		{[]int{64, 64, 1}, filled('b'), "c" + old5[1:]},
		{[]int{10, 5, 64, 2}, "ddbbb" + "aaaaa" + old2[10:], filled('c')},
		{[]int{5, 10, 0, 2}, "dd" + "bbbbbbbb" + old2[10:], old5},
		{[]int{65, 0, 1000, 0}, filled('a'), filled('c')},
		{[]int{0, math.MaxInt, 63, 64, 64, 64}, filled('d'), filled('c')[:63] + old5[63:]},
		{[]int{1, 2, 3, 4}, "dddd" + old2[4:], "ccc" + old5[3:]},
		{[]int{4, 3, 2, 1}, "dbba" + old2[4:], "cc" + old5[2:]},
	} {
		got := impl.PowerLoss(d, c.fates)
		want := plainDisk(8, 0)
		want.Sectors[2], want.Sectors[5] = c.two, c.fifth
		if !sameDisk(got, want) {
			t.Errorf("fates %v: %q, %q, pending %d", c.fates, got.Sectors[2], got.Sectors[5], len(got.Pending))
		}
	}
}

// model is a disk told a second way: a write is taken in as a text cut in two.
type model struct {
	sectors []string
	pending []impl.Write
}

func (m *model) settle(fate func(i int) int) {
	for i, w := range m.pending {
		n := fate(i)
		m.sectors[w.At] = w.Data[:n] + m.sectors[w.At][n:]
	}
	m.pending = nil
}

func (m *model) do(op impl.Op) {
	if op.Sync {
		m.settle(func(int) int { return impl.SectorSize })
	} else if op.At >= 0 && op.At < len(m.sectors) && len(op.Data) == impl.SectorSize && len(m.pending) < impl.MaxPending {
		m.pending = append(m.pending, impl.Write{At: op.At, Data: op.Data})
	}
}

func (m *model) disk() impl.Disk {
	return impl.Disk{Sectors: m.sectors, Pending: m.pending}
}

func modelOf(d impl.Disk) *model {
	c := copied(d)
	return &model{sectors: c.Sectors, pending: c.Pending}
}

// someOps are ops of all kinds, with few syncs, so that Pending may get full.
func someOps(r *dice, sectors int, count int, syncs int) []impl.Op {
	var ops []impl.Op
	for i := 0; i < count; i++ {
		op := impl.Op{Sync: r.roll(syncs) == 0, At: r.roll(sectors+2) - 1, Data: filled(byte(r.roll(256)))}
		if r.roll(10) == 0 {
			op.Data = op.Data[r.roll(64):]
		}
		ops = append(ops, op)
	}
	return ops
}

func someFates(r *dice, count int) []int {
	var fates []int
	for i := 0; i < count; i++ {
		fates = append(fates, r.roll(90)-10)
	}
	return fates
}

// P2
func TestPerformAndPowerLossAreTheModel(t *testing.T) {
	r := dice(1)
	for round := 0; round < 300; round++ {
		sectors := 8 + r.roll(193)
		d := plainDisk(sectors, r.roll(301))
		ops := someOps(&r, sectors, r.roll(80), 10)
		m := modelOf(d)
		for n, op := range ops {
			if n%17 == 0 && !sameDisk(impl.Perform(d, ops, n), m.disk()) {
				t.Fatalf("round %d: %d ops", round, n)
			}
			m.do(op)
		}
		end := impl.Perform(d, ops, len(ops))
		if !sameDisk(end, m.disk()) || !impl.ValidDisk(end) {
			t.Fatalf("round %d: all ops", round)
		}
		fates := someFates(&r, r.roll(100))
		lost := impl.PowerLoss(end, fates)
		m.settle(func(i int) int {
			if i >= len(fates) {
				return 0
			}
			return max(0, min(fates[i], impl.SectorSize))
		})
		if !sameDisk(lost, m.disk()) || !impl.ValidDisk(lost) {
			t.Fatalf("round %d: fates %v", round, fates)
		}
	}
}

// P2
func TestPerformOfOneAndThenOfTheOtherIsThatOfBoth(t *testing.T) {
	r := dice(2)
	for round := 0; round < 200; round++ {
		sectors := 8 + r.roll(20)
		d := plainDisk(sectors, r.roll(301))
		ops := someOps(&r, sectors, 1+r.roll(400), 2+r.roll(300))
		both := impl.Perform(d, ops, len(ops))
		for try := 0; try < 4; try++ {
			k := r.roll(len(ops) + 1)
			if got := impl.Perform(impl.Perform(d, ops[:k], k), ops[k:], len(ops)-k); !sameDisk(got, both) {
				t.Fatalf("round %d: cut at %d of %d", round, k, len(ops))
			}
		}
	}
}

// P2
func TestPowerLossAndSync(t *testing.T) {
	r := dice(3)
	sync := []impl.Op{{Sync: true}}
	for round := 0; round < 200; round++ {
		sectors := 8 + r.roll(193)
		d := impl.Perform(plainDisk(sectors, r.roll(301)), someOps(&r, sectors, 50, 30), 50)
		safe := impl.Perform(d, sync, 1)
		if got := impl.PowerLoss(safe, someFates(&r, 5)); !sameDisk(got, safe) {
			t.Fatalf("round %d: power lost behind a sync", round)
		}
		var fates []int
		for range d.Pending {
			fates = append(fates, impl.SectorSize+r.roll(2)*r.roll(1000))
		}
		if got := impl.PowerLoss(d, fates); !sameDisk(got, safe) {
			t.Fatalf("round %d: all fates whole", round)
		}
		if got := impl.PowerLoss(d, append(fates, 0, -1)); !sameDisk(got, safe) {
			t.Fatalf("round %d: more fates than writes", round)
		}
	}
}

func TestNothingIsWrittenIntoAnArgument(t *testing.T) {
	d := copied(plainDisk(8, 5))
	before := copied(d)
	r := dice(4)
	ops := append(someOps(&r, 8, 40, 6), impl.Op{At: 99, Data: "mark"})
	opsBefore := append([]impl.Op{}, ops...)
	fates := []int{-5, 700, 3, 64, 9}
	impl.Sector(d, 3)
	impl.Perform(d, ops[:40], 40)
	impl.PowerLoss(d, fates[:4])
	if !sameDisk(d, before) || !marked(d) {
		t.Error("the disk was changed")
	}
	if !reflect.DeepEqual(ops, opsBefore) || !reflect.DeepEqual(fates, []int{-5, 700, 3, 64, 9}) {
		t.Error("ops or fates were changed")
	}
}

// scribble writes over all of a disk's lists, the room behind them too.
func scribble(d impl.Disk) {
	for i := range d.Sectors[:cap(d.Sectors)] {
		d.Sectors[:cap(d.Sectors)][i] = "scribble"
	}
	for i := range d.Pending[:cap(d.Pending)] {
		d.Pending[:cap(d.Pending)][i] = impl.Write{At: -9, Data: "scribble"}
	}
}

func TestEveryAnswerIsNewMemory(t *testing.T) {
	none := []impl.Op{}
	for _, pending := range []int{0, 5} {
		d := copied(plainDisk(8, pending))
		before := copied(d)
		for name, call := range map[string]func() impl.Disk{
			"new":     func() impl.Disk { return impl.NewDisk(8) },
			"no op":   func() impl.Disk { return impl.Perform(d, none, 0) },
			"a write": func() impl.Disk { return impl.Perform(d, []impl.Op{{At: 1, Data: filled('x')}}, 1) },
			"a sync":  func() impl.Disk { return impl.Perform(d, []impl.Op{{Sync: true}}, 1) },
			"a loss":  func() impl.Disk { return impl.PowerLoss(d, []int{1, 2, 3}) },
		} {
			first := call()
			want := copied(first)
			scribble(first)
			if !sameDisk(d, before) || !marked(d) {
				t.Fatalf("%s: the answer shares memory with the argument", name)
			}
			if second := call(); !sameDisk(second, want) {
				t.Errorf("%s: the second answer is not the first", name)
			}
		}
	}
}
