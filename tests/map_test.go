package tests

import (
	"maps"
	"math"
	"slices"
	"strings"
	"testing"

	"loop.example/kilnstone/impl"
)

// pairs are so many, ascending, with Keys of three bytes and Values of so many.
func pairs(count, value int) []impl.Pair {
	var all []impl.Pair
	for i := 0; i < count; i++ {
		all = append(all, impl.Pair{Key: string([]byte{'k', byte(i / 16), byte(i % 16 * 16)}), Value: text(value)})
	}
	return all
}

// changes are so many that set Keys of one byte.
func changes(count int) []impl.Change {
	var all []impl.Change
	for i := 0; i < count; i++ {
		all = append(all, impl.Change{Key: string([]byte{byte(i)}), Value: text(i)})
	}
	return all
}

func state(pairs ...impl.Pair) impl.State {
	return impl.State{Pairs: pairs}
}

func sameState(a, b impl.State) bool {
	return slices.Equal(a.Pairs, b.Pairs)
}

func isNothingState(s impl.State) bool {
	return len(s.Pairs) == 0
}

func validStates() map[string]impl.State {
	return map[string]impl.State{
		"nothing":              {},
		"the empty list":       {Pairs: []impl.Pair{}},
		"the smallest":         state(impl.Pair{Key: "\x00"}),
		"the greatest pair":    state(impl.Pair{Key: text(20), Value: text(100)}),
		"99 pairs":             state(pairs(99, 3)...),
		"100 pairs":            state(pairs(100, 0)...),
		"100 great pairs":      state(pairs(100, 100)...),
		"beginnings":           state(impl.Pair{Key: "a"}, impl.Pair{Key: "a\x00"}, impl.Pair{Key: "a\x00\x00"}, impl.Pair{Key: "b"}),
		"bytes, not letters":   state(impl.Pair{Key: "Z"}, impl.Pair{Key: "a"}, impl.Pair{Key: "\x7f"}, impl.Pair{Key: "\x80"}, impl.Pair{Key: "\xc3\xa9"}, impl.Pair{Key: "\xff"}),
		"a value of all bytes": state(impl.Pair{Key: "\xff\x00", Value: "\x00\x01\xff"}),
	}
}

func brokenStates() map[string]impl.State {
	return map[string]impl.State{
		"101 pairs":             state(pairs(101, 0)...),
		"200 pairs":             state(pairs(200, 0)...),
		"an empty key":          state(impl.Pair{Key: "", Value: "v"}),
		"an empty key at first": state(impl.Pair{}, impl.Pair{Key: "a"}),
		"a key of 21":           state(impl.Pair{Key: "a"}, impl.Pair{Key: strings.Repeat("k", 21)}),
		"a key of 276":          state(impl.Pair{Key: strings.Repeat("k", 276)}),
		"a value of 101":        state(impl.Pair{Key: "a"}, impl.Pair{Key: "k", Value: text(101)}),
		"equal keys":            state(impl.Pair{Key: "a", Value: "1"}, impl.Pair{Key: "a", Value: "2"}),
		"equal keys at the end": state(impl.Pair{Key: "a"}, impl.Pair{Key: "b"}, impl.Pair{Key: "b"}),
		"descending":            state(impl.Pair{Key: "b"}, impl.Pair{Key: "a"}),
		"descending at the end": state(impl.Pair{Key: "a"}, impl.Pair{Key: "c"}, impl.Pair{Key: "b"}),
		"a beginning behind":    state(impl.Pair{Key: "aa"}, impl.Pair{Key: "a"}),
		"letters, not bytes":    state(impl.Pair{Key: "a"}, impl.Pair{Key: "Z"}),
		"signed bytes":          state(impl.Pair{Key: "\xff"}, impl.Pair{Key: "a"}),
	}
}

func validBatches() map[string][]impl.Change {
	most := make([]impl.Change, 20)
	for i := range most {
		most[i] = impl.Change{Key: text(20), Value: text(100)}
	}
	return map[string][]impl.Change{
		"one":               changes(1),
		"19":                changes(19),
		"20":                changes(20),
		"20 of the most":    most,
		"a key of 1":        {{Key: "k", Value: "v"}},
		"a key of 20":       {{Key: text(20), Value: "v"}},
		"no value":          {{Key: "k"}},
		"a value of 100":    {{Key: "k", Value: text(100)}},
		"gone":              {{Key: "k", Gone: true}},
		"gone, a key of 20": {{Key: text(20), Gone: true}},
		"one key twice":     {{Key: "k", Value: "1"}, {Key: "k", Value: "2"}},
		"set and gone":      {{Key: "k", Value: "1"}, {Key: "k", Gone: true}, {Key: "k", Value: "2"}},
		"not ascending":     {{Key: "z"}, {Key: "b", Gone: true}, {Key: "a", Value: "x"}},
		"bytes of a form":   {{Key: "\x00", Value: "\x01\x01k"}, {Key: "\x01", Gone: true}, {Key: "\x00\x01", Value: "\x00"}},
	}
}

func brokenBatches() map[string][]impl.Change {
	behind := func(c impl.Change) []impl.Change { return []impl.Change{{Key: "a", Value: "1"}, c} }
	return map[string][]impl.Change{
		"nil":               nil,
		"empty":             {},
		"21":                changes(21),
		"100":               changes(100),
		"an empty key":      behind(impl.Change{Value: "v"}),
		"an empty key gone": behind(impl.Change{Gone: true}),
		"a key of 21":       behind(impl.Change{Key: text(21)}),
		"gone, 21":          behind(impl.Change{Key: text(21), Gone: true}),
		"a value of 101":    behind(impl.Change{Key: "k", Value: text(101)}),
		"a value of 356":    behind(impl.Change{Key: "k", Value: text(356)}),
		"gone with a value": behind(impl.Change{Key: "k", Value: "v", Gone: true}),
		"gone with a zero":  {{Key: "k", Value: "\x00", Gone: true}},
	}
}

func TestValidState(t *testing.T) {
	for name, s := range validStates() {
		if !impl.ValidState(s) {
			t.Errorf("%s: not valid", name)
		}
	}
	for name, s := range brokenStates() {
		if impl.ValidState(s) {
			t.Errorf("%s: valid", name)
		}
	}
}

func TestValidBatch(t *testing.T) {
	for name, b := range validBatches() {
		if !impl.ValidBatch(b) {
			t.Errorf("%s: not valid", name)
		}
	}
	for name, b := range brokenBatches() {
		if impl.ValidBatch(b) {
			t.Errorf("%s: valid", name)
		}
	}
}

// batchForm is the form of a batch, written a second way.
func batchForm(b []impl.Change) string {
	var form []byte
	for _, c := range b {
		if c.Gone {
			form = append(append(form, 1, byte(len(c.Key))), c.Key...)
		} else {
			form = append(append(form, 0, byte(len(c.Key))), c.Key...)
			form = append(append(form, byte(len(c.Value))), c.Value...)
		}
	}
	return string(form)
}

// P4
func TestReadBatchOfFormBatchIsTheBatch(t *testing.T) {
	for name, b := range validBatches() {
		form := impl.FormBatch(b)
		if form != batchForm(b) {
			t.Errorf("%s: %q", name, form)
		}
		if got, ok := impl.ReadBatch(form); !ok || !slices.Equal(got, b) {
			t.Errorf("%s: read as %+v, %v", name, got, ok)
		}
	}
	for name, b := range brokenBatches() {
		if form := impl.FormBatch(b); form != "" {
			t.Errorf("%s: %q", name, form)
		}
	}
}

// P4
func TestReadBatchOfSomeBatches(t *testing.T) {
	r := dice(7)
	for round := 0; round < 3000; round++ {
		b := someBatch(&r, 1+r.roll(20), 20)
		form := impl.FormBatch(b)
		if form != batchForm(b) {
			t.Fatalf("round %d: %q", round, form)
		}
		if got, ok := impl.ReadBatch(form); !ok || !slices.Equal(got, b) {
			t.Fatalf("round %d: %+v, %v", round, got, ok)
		}
	}
}

// someBatch has Keys and Values of all sizes; the fewer bytes a Key may have, the more are equal.
func someBatch(r *dice, count, key int) []impl.Change {
	var b []impl.Change
	for i := 0; i < count; i++ {
		c := impl.Change{Gone: r.roll(3) == 0}
		for range 1 + r.roll(key) {
			c.Key += string([]byte{byte(r.roll(4) * 85)})
		}
		if !c.Gone {
			c.Value = text(r.roll(101))
		}
		b = append(b, c)
	}
	return b
}

func noBatch(t *testing.T, s string, why string) {
	t.Helper()
	if b, ok := impl.ReadBatch(s); ok || len(b) != 0 {
		t.Errorf("%s: %q read as %+v, %v", why, s, b, ok)
	}
}

// P4: the text is the form that the batch would have, were it valid, or is no such form.
func TestReadBatchReadsNoOtherText(t *testing.T) {
	noBatch(t, "", "no byte")
	for name, b := range brokenBatches() {
		if name != "gone with a value" && name != "gone with a zero" {
			noBatch(t, batchForm(b), name)
		}
	}
	noBatch(t, "\x01\x01k\x01v", "gone with a value")
	noBatch(t, "\x01\x01k\x00", "gone with the size of a value")
	for mark := 2; mark < 256; mark++ {
		noBatch(t, string([]byte{byte(mark), 1, 'k', 1, 'v'}), "neither 0 nor 1")
		noBatch(t, "\x00\x01k\x01v"+string([]byte{byte(mark), 1, 'k'}), "neither 0 nor 1 behind a change")
	}
	for size := 0; size < 256; size++ {
		key := strings.Repeat("k", size)
		b, ok := impl.ReadBatch("\x01" + string([]byte{byte(size)}) + key)
		if want := size >= 1 && size <= 20; ok != want || ok && !slices.Equal(b, []impl.Change{{Key: key, Gone: true}}) || !ok && len(b) != 0 {
			t.Errorf("a key of %d: %+v, %v", size, b, ok)
		}
		b, ok = impl.ReadBatch("\x00\x01k" + string([]byte{byte(size)}) + key)
		if want := size <= 100; ok != want || ok && !slices.Equal(b, []impl.Change{{Key: "k", Value: key}}) || !ok && len(b) != 0 {
			t.Errorf("a value of %d: %+v, %v", size, b, ok)
		}
	}
	noBatch(t, strings.Repeat("\x01\x01k", 21), "21 changes")
	noBatch(t, strings.Repeat("\x01\x01k", 20)+"\x00", "a byte behind 20 changes")
	noBatch(t, strings.Repeat("\x01\x01k", 20)+"\x02", "a mark behind 20 changes")
	noBatch(t, strings.Repeat("\x01\x01k", 100000), "100000 changes")
	noBatch(t, batchForm(changes(20))+batchForm(changes(20)), "a batch twice")
}

// P4: whatever a form has one byte less or more, what is read has the text as its form.
func TestReadBatchOfFormsWithAByteLessOrMore(t *testing.T) {
	for name, b := range validBatches() {
		form := batchForm(b)
		for at := 0; at <= len(form); at++ {
			for _, x := range []string{"\x00", "\x01", "\x02", "k", "\xff"} {
				onlyItsForm(t, name, form[:at]+x+form[at:])
			}
			if at < len(form) {
				onlyItsForm(t, name, form[:at]+form[at+1:])
				onlyItsForm(t, name, form[:at]+"\x15"+form[at+1:])
				onlyItsForm(t, name, form[:at])
			}
		}
		noBatch(t, form[:len(form)-1], name+", the last byte left out")
		noBatch(t, form+"\x00", name+", a zero more")
		noBatch(t, form+"\x01", name+", a one more")
	}
}

func onlyItsForm(t *testing.T, name, s string) {
	t.Helper()
	b, ok := impl.ReadBatch(s)
	if !ok && len(b) != 0 || ok && (!impl.ValidBatch(b) || batchForm(b) != s) {
		t.Errorf("%s: %q read as %+v, %v", name, s, b, ok)
	}
}

// formsUpTo are the forms of at most so many bytes, each 0, 1 or 2, of all valid batches.
func formsUpTo(size int) map[string]bool {
	bytes := []string{"\x00", "\x01", "\x02"}
	// As a size is such a byte, too, no Key and no Value has more than two bytes.
	keys := slices.Clone(bytes)
	for _, x := range bytes {
		for _, y := range bytes {
			keys = append(keys, x+y)
		}
	}
	small := map[string]bool{} // forms of one change
	for _, k := range keys {
		small[batchForm([]impl.Change{{Key: k, Gone: true}})] = true
		for _, v := range append([]string{""}, keys...) {
			small[batchForm([]impl.Change{{Key: k, Value: v}})] = true
		}
	}
	all := map[string]bool{}
	grown := map[string]bool{"": true}
	for len(grown) > 0 {
		next := map[string]bool{}
		for begin := range grown {
			for one := range small {
				if len(begin)+len(one) <= size {
					next[begin+one] = true
					all[begin+one] = true
				}
			}
		}
		grown = next
	}
	return all
}

// P4
func TestReadBatchOfAllShortTexts(t *testing.T) {
	const size = 8
	forms := formsUpTo(size)
	read := 0
	for count := 0; count <= size; count++ {
		total := int(math.Pow(3, float64(count)))
		for n := 0; n < total; n++ {
			b := make([]byte, count)
			for i, rest := 0, n; i < count; i, rest = i+1, rest/3 {
				b[i] = byte(rest % 3)
			}
			got, ok := impl.ReadBatch(string(b))
			if ok != forms[string(b)] || ok && batchForm(got) != string(b) || !ok && len(got) != 0 {
				t.Fatalf("%q: %+v, %v", b, got, ok)
			}
			if ok {
				read++
			}
		}
	}
	if read != len(forms) || read < 100 {
		t.Errorf("%d read of %d forms", read, len(forms))
	}
}

// applyModel applies by a map of the language, and sorts at the end.
func applyModel(s impl.State, b []impl.Change) (impl.State, int) {
	m := map[string]string{}
	for _, p := range s.Pairs {
		m[p.Key] = p.Value
	}
	for _, c := range b {
		if c.Gone {
			delete(m, c.Key)
		} else {
			m[c.Key] = c.Value
		}
	}
	if len(m) > impl.MaxPairs {
		return impl.State{}, 2
	}
	var out impl.State
	for _, k := range slices.Sorted(maps.Keys(m)) {
		out.Pairs = append(out.Pairs, impl.Pair{Key: k, Value: m[k]})
	}
	return out, 0
}

// P5
func TestApplyIsTheModel(t *testing.T) {
	r := dice(8)
	codes := map[int]int{}
	for round := 0; round < 60; round++ {
		s := impl.State{}
		if round%2 == 1 {
			s.Pairs = pairs(80+r.roll(21), r.roll(101))
		}
		for step := 0; step < 100; step++ {
			b := someBatch(&r, 1+r.roll(20), 1+r.roll(4))
			want, code := applyModel(s, b)
			got, c := impl.Apply(s, b)
			if c != code || !sameState(got, want) || !impl.ValidState(got) {
				t.Fatalf("round %d, step %d: code %d, not %d", round, step, c, code)
			}
			codes[c]++
			if c == 0 {
				s = got
			}
		}
	}
	if codes[0] < 1000 || codes[2] < 100 {
		t.Errorf("codes %v", codes)
	}
}

func TestApplyChangesOneAfterTheOther(t *testing.T) {
	s := state(impl.Pair{Key: "b", Value: "1"}, impl.Pair{Key: "d", Value: "2"})
	for _, c := range []struct {
		name string
		b    []impl.Change
		want impl.State
	}{
		{"set anew", []impl.Change{{Key: "b", Value: "x"}}, state(impl.Pair{Key: "b", Value: "x"}, s.Pairs[1])},
		{"set to no byte", []impl.Change{{Key: "d"}}, state(s.Pairs[0], impl.Pair{Key: "d"})},
		{"first", []impl.Change{{Key: "a", Value: "x"}}, state(impl.Pair{Key: "a", Value: "x"}, s.Pairs[0], s.Pairs[1])},
		{"between", []impl.Change{{Key: "bb", Value: "x"}}, state(s.Pairs[0], impl.Pair{Key: "bb", Value: "x"}, s.Pairs[1])},
		{"last", []impl.Change{{Key: "\xff"}}, state(s.Pairs[0], s.Pairs[1], impl.Pair{Key: "\xff"})},
		{"the first gone", []impl.Change{{Key: "b", Gone: true}}, state(s.Pairs[1])},
		{"the last gone", []impl.Change{{Key: "d", Gone: true}}, state(s.Pairs[0])},
		{"all gone", []impl.Change{{Key: "d", Gone: true}, {Key: "b", Gone: true}}, impl.State{}},
		{"gone and not there", []impl.Change{{Key: "c", Gone: true}, {Key: "z", Gone: true}, {Key: "a", Gone: true}, {Key: "bb", Gone: true}}, s},
		{"gone twice", []impl.Change{{Key: "b", Gone: true}, {Key: "b", Gone: true}}, state(s.Pairs[1])},
		{"changed twice", []impl.Change{{Key: "c", Value: "x"}, {Key: "c", Value: "y"}}, state(s.Pairs[0], impl.Pair{Key: "c", Value: "y"}, s.Pairs[1])},
		{"set and gone", []impl.Change{{Key: "c", Value: "x"}, {Key: "c", Gone: true}}, s},
		{"gone and set", []impl.Change{{Key: "b", Gone: true}, {Key: "b", Value: "y"}}, state(impl.Pair{Key: "b", Value: "y"}, s.Pairs[1])},
	} {
		if got, code := impl.Apply(s, c.b); code != 0 || !sameState(got, c.want) {
			t.Errorf("%s: %+v, %d", c.name, got, code)
		}
	}
}

func TestApplyOfWhatIsNotValid(t *testing.T) {
	for name, s := range brokenStates() {
		if got, code := impl.Apply(s, changes(1)); code != 1 || !isNothingState(got) {
			t.Errorf("%s: %+v, %d", name, got, code)
		}
		if got, code := impl.Apply(s, nil); code != 1 || !isNothingState(got) {
			t.Errorf("%s with no batch: %+v, %d", name, got, code)
		}
	}
	for name, b := range brokenBatches() {
		// Of a full state the code would be 2, if 1 were not looked for first.
		for _, s := range []impl.State{{}, state(pairs(100, 0)...)} {
			if got, code := impl.Apply(s, b); code != 1 || !isNothingState(got) {
				t.Errorf("%s: %+v, %d", name, got, code)
			}
		}
	}
	for name, b := range validBatches() {
		for _, s := range validStates() {
			if len(s.Pairs) > 80 {
				continue
			}
			if got, code := impl.Apply(s, b); code != 0 || !impl.ValidState(got) {
				t.Errorf("%s: %d", name, code)
			}
		}
	}
}

// More than MaxPairs counts behind the batch, not in its midst.
func TestApplyPastMaxPairs(t *testing.T) {
	full := pairs(100, 1)
	gone := func(i int) impl.Change { return impl.Change{Key: full[i].Key, Gone: true} }
	a, b := impl.Change{Key: "a"}, impl.Change{Key: "b"}
	for _, c := range []struct {
		name  string
		pairs int
		b     []impl.Change
		code  int
		left  int
	}{
		{"to 100", 99, []impl.Change{a}, 0, 100},
		{"to 101", 99, []impl.Change{a, b}, 2, 0},
		{"of 100", 100, []impl.Change{a}, 2, 0},
		{"set anew at 100", 100, []impl.Change{{Key: full[99].Key, Value: "x"}}, 0, 100},
		{"gone at 100", 100, []impl.Change{gone(0)}, 0, 99},
		{"room first", 100, []impl.Change{gone(0), a}, 0, 100},
		{"room at the end", 100, []impl.Change{a, gone(99)}, 0, 100},
		{"past it in the midst", 99, []impl.Change{a, b, {Key: "c"}, gone(1), gone(2)}, 0, 100},
		{"past it in the midst, gone itself", 100, []impl.Change{a, {Key: "a", Gone: true}}, 0, 100},
		{"not enough room", 100, []impl.Change{a, b, gone(1)}, 2, 0},
		{"gone and not there makes no room", 100, []impl.Change{a, {Key: "z", Gone: true}}, 2, 0},
		{"one key twice is one pair", 99, []impl.Change{a, a}, 0, 100},
		{"20 more", 80, changes(20), 0, 100},
		{"20 more, one too many", 81, changes(20), 2, 0},
		{"20 more of 100", 100, changes(20), 2, 0},
	} {
		s := state(full[:c.pairs]...)
		want, code := applyModel(s, c.b)
		got, gotCode := impl.Apply(s, c.b)
		if gotCode != c.code || gotCode != code || len(got.Pairs) != c.left || !sameState(got, want) {
			t.Errorf("%s: code %d, %d pairs", c.name, gotCode, len(got.Pairs))
		}
	}
}

func TestGet(t *testing.T) {
	for name, s := range validStates() {
		for _, p := range s.Pairs {
			if v, ok := impl.Get(s, p.Key); !ok || v != p.Value {
				t.Errorf("%s, %q: %q, %v", name, p.Key, v, ok)
			}
		}
		for _, key := range []string{"", "0", "aa", "k", "\xff\xff", "k\x00\x00\x00", text(21), strings.Repeat("z", 1000)} {
			if v, ok := impl.Get(s, key); ok || v != "" {
				t.Errorf("%s, %q: %q, %v", name, key, v, ok)
			}
		}
	}
	for name, s := range brokenStates() {
		for _, p := range append(s.Pairs, impl.Pair{Key: "none"}) {
			if v, ok := impl.Get(s, p.Key); ok || v != "" {
				t.Errorf("%s, %q: %q, %v", name, p.Key, v, ok)
			}
		}
	}
}

// P5
func TestSnapshotMakesTheState(t *testing.T) {
	for _, count := range []int{0, 1, 19, 20, 21, 39, 40, 41, 99, 100} {
		for _, value := range []int{0, 1, 100} {
			s := state(pairs(count, value)...)
			batches := impl.Snapshot(s)
			if len(batches) != (count+19)/20 {
				t.Fatalf("%d pairs: %d batches", count, len(batches))
			}
			made := impl.State{}
			for i, b := range batches {
				if want := min(20, count-20*i); len(b) != want {
					t.Errorf("%d pairs: %d changes in batch %d, not %d", count, len(b), i, want)
				}
				for j, c := range b {
					if p := s.Pairs[20*i+j]; c != (impl.Change{Key: p.Key, Value: p.Value}) {
						t.Errorf("%d pairs: change %d of batch %d is %+v", count, j, i, c)
					}
				}
				var code int
				if made, code = impl.Apply(made, b); code != 0 {
					t.Errorf("%d pairs: batch %d: code %d", count, i, code)
				}
			}
			if !sameState(made, s) {
				t.Errorf("%d pairs: not the state", count)
			}
		}
	}
	for name, s := range brokenStates() {
		if got := impl.Snapshot(s); len(got) != 0 {
			t.Errorf("%s: %d batches", name, len(got))
		}
	}
}

func TestRoom(t *testing.T) {
	for width := 1; width <= impl.MaxWidth; width++ {
		for _, count := range []int{0, 1, 19, 20, 21, 40, 41, 100} {
			for _, value := range []int{0, 1, 35, 100} {
				// Each change has 6 bytes and its Value; a batch has pages of its own.
				want := 0
				for left := count; left > 0; left -= 20 {
					bytes := min(left, 20) * (6 + value)
					want += (bytes + roomOf(width) - 1) / roomOf(width)
				}
				if got := impl.Room(state(pairs(count, value)...), width); got != want {
					t.Errorf("width %d, %d pairs of %d: %d, not %d", width, count, value, got, want)
				}
			}
		}
		for name, s := range brokenStates() {
			if got := impl.Room(s, width); got != 0 {
				t.Errorf("%s: %d", name, got)
			}
		}
	}
	for _, width := range noWidths {
		for _, count := range []int{0, 1, 100} {
			if got := impl.Room(state(pairs(count, 5)...), width); got != 0 {
				t.Errorf("width %d, %d pairs: %d", width, count, got)
			}
		}
	}
}

// spare is a list with room behind it that holds a mark.
func spare[T any](list []T, mark T) []T {
	return append(append(make([]T, 0, len(list)+1), list...), mark)[:len(list)]
}

func overwrite[T any](list []T, mark T) {
	for i := range list[:cap(list)] {
		list[:cap(list)][i] = mark
	}
}

func TestTheMapWritesIntoNoArgument(t *testing.T) {
	pair, change := impl.Pair{Key: "mark"}, impl.Change{Key: "mark"}
	for _, count := range []int{0, 5, 90, 100} {
		s := impl.State{Pairs: spare(pairs(count, 2), pair)}
		for name, b := range validBatches() {
			given := spare(b, change)
			for _, more := range []impl.Change{{Key: "k\x00\x00", Value: "new"}, {Key: "k\x00\x00", Gone: true}, {Key: "a"}} {
				impl.Apply(s, []impl.Change{more})
			}
			impl.Apply(s, given)
			impl.FormBatch(given)
			if !slices.Equal(given, b) || given[:len(b)+1][len(b)] != change {
				t.Fatalf("%s: the batch was changed", name)
			}
		}
		impl.Get(s, "a")
		impl.Snapshot(s)
		impl.Room(s, 8)
		if !slices.Equal(s.Pairs, pairs(count, 2)) || s.Pairs[:count+1][count] != pair {
			t.Errorf("%d pairs: the state was changed", count)
		}
	}
}

func TestTheMapAnswersNewMemory(t *testing.T) {
	for _, count := range []int{0, 5, 45} {
		s := impl.State{Pairs: spare(pairs(count, 2), impl.Pair{Key: "mark"})}
		for _, b := range [][]impl.Change{{{Key: "none", Gone: true}}, {{Key: "a", Value: "b"}}, {{Key: "k\x00\x00", Gone: true}}} {
			first, _ := impl.Apply(s, b)
			want, _ := applyModel(s, b)
			overwrite(first.Pairs, impl.Pair{Key: "over"})
			if got, _ := impl.Apply(s, b); !sameState(got, want) {
				t.Errorf("%d pairs: %+v", count, got)
			}
		}
		batches := impl.Snapshot(s)
		for i := range batches {
			overwrite(batches[i], impl.Change{Key: "over"})
			for _, other := range batches[i+1:] {
				if other[0].Key == "over" {
					t.Errorf("%d pairs: batches share memory", count)
				}
			}
		}
		if !slices.Equal(s.Pairs, pairs(count, 2)) || s.Pairs[:count+1][count].Key != "mark" {
			t.Errorf("%d pairs: the state was changed", count)
		}
	}
	form := batchForm(changes(20))
	b, _ := impl.ReadBatch(form)
	overwrite(b, impl.Change{Key: "over"})
	if got, ok := impl.ReadBatch(form); !ok || !slices.Equal(got, changes(20)) {
		t.Error("the second answer is not the first")
	}
}
