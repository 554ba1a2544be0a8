package tests

import (
	"encoding/binary"
	"hash/fnv"
	"math"
	"strings"
	"testing"

	"loop.example/kilnstone/impl"
)

var noWidths = []int{0, 9, -1, 10, 64, 256 + 8, math.MinInt, math.MaxInt}

// sumOf is the sum by the library's own hash.
func sumOf(text string, width int) string {
	h := fnv.New64a()
	h.Write([]byte(text))
	return string(h.Sum(nil)[8-width:])
}

// seal puts the right sum before the bytes of a page, whatever they are.
func seal(body string, width int) string {
	return sumOf(body, width) + body
}

// body writes all of a page but its sum, with zeros up to the end of the sector; it does not ask whether the page is valid.
func body(kind byte, life uint16, number uint32, size byte, rest string, width int) string {
	b := []byte{kind}
	b = binary.BigEndian.AppendUint16(b, life)
	b = binary.BigEndian.AppendUint32(b, number)
	b = append(b, size)
	b = append(b, rest...)
	return string(b) + strings.Repeat("\x00", impl.SectorSize-width-len(b))
}

// formOf is the form of a valid page, written a second way.
func formOf(p impl.Page, width int) string {
	return seal(body(byte(p.Kind), uint16(p.Life), uint32(p.Number), byte(len(p.Part)), p.Part, width), width)
}

// validPages are pages at the edges of what is valid for a width.
func validPages(width int) []impl.Page {
	most := impl.SectorSize - width - 8
	parts := []string{"", "a", "\x00", "\xff", "ab\x00", strings.Repeat("\x00", most), strings.Repeat("z", most-1), strings.Repeat("\xff", most)}
	var all []impl.Page
	for _, kind := range []int{impl.PagePart, impl.PageLast, impl.PageLife, impl.PageRoot} {
		for _, life := range []int{1, 2, 255, 256, 257, 59999, impl.MaxLife} {
			for _, number := range []int{1, 2, 255, 256, 65535, 65536, 1 << 24, 999999999, impl.MaxNumber} {
				for _, part := range parts {
					if kind == impl.PageLife && part != "" {
						continue
					}
					all = append(all, impl.Page{Kind: kind, Life: life, Number: number, Part: part})
				}
			}
		}
	}
	return all
}

func TestSumIsTheKnownOne(t *testing.T) {
	texts := []string{"", "a", "\x00", "\xff", "\x80\x7f", "foobar", strings.Repeat("\x00", 64), strings.Repeat("\xff", 1000)}
	for i := 0; i < 256; i++ {
		texts = append(texts, string([]byte{byte(i)}), string([]byte{'x', byte(i), 0}))
	}
	for _, text := range texts {
		for width := 1; width <= impl.MaxWidth; width++ {
			if got, want := impl.Sum(text, width), sumOf(text, width); got != want {
				t.Fatalf("Sum(%q, %d) is %x, not %x", text, width, got, want)
			}
		}
	}
	if got := impl.Sum("a", 8); got != "\xaf\x63\xdc\x4c\x86\x01\xec\x8c" {
		t.Errorf("%x", got)
	}
}

func TestSumOfNoWidth(t *testing.T) {
	for _, width := range noWidths {
		if got := impl.Sum("a", width); got != "" {
			t.Errorf("width %d: %x", width, got)
		}
	}
}

// P1
func TestReadPageOfFormPageIsThePage(t *testing.T) {
	for width := 1; width <= impl.MaxWidth; width++ {
		for _, p := range validPages(width) {
			form := impl.FormPage(p, width)
			if form != formOf(p, width) || len(form) != impl.SectorSize {
				t.Fatalf("width %d, %+v: form %q", width, p, form)
			}
			if q, ok := impl.ReadPage(form, width); !ok || q != p {
				t.Fatalf("width %d, %+v: read as %+v, %v", width, p, q, ok)
			}
		}
	}
}

func TestFormPageOfNoValidPage(t *testing.T) {
	for width := 1; width <= impl.MaxWidth; width++ {
		most := impl.SectorSize - width - 8
		for _, p := range []impl.Page{
			{},
			{Kind: 0, Life: 1, Number: 1},
			{Kind: 5, Life: 1, Number: 1},
			{Kind: -1, Life: 1, Number: 1},
			{Kind: 256 + 1, Life: 1, Number: 1},
			{Kind: math.MaxInt, Life: 1, Number: 1},
			{Kind: 1, Life: 0, Number: 1},
			{Kind: 1, Life: -1, Number: 1},
			{Kind: 1, Life: impl.MaxLife + 1, Number: 1},
			{Kind: 1, Life: 65536 + 1, Number: 1},
			{Kind: 1, Life: math.MinInt, Number: 1},
			{Kind: 1, Life: 1, Number: 0},
			{Kind: 1, Life: 1, Number: -1},
			{Kind: 1, Life: 1, Number: impl.MaxNumber + 1},
			{Kind: 1, Life: 1, Number: 1<<32 + 1},
			{Kind: 1, Life: 1, Number: math.MaxInt},
			{Kind: impl.PagePart, Life: 1, Number: 1, Part: strings.Repeat("x", most+1)},
			{Kind: impl.PageLast, Life: 1, Number: 1, Part: strings.Repeat("x", most+256)},
			{Kind: impl.PageRoot, Life: 1, Number: 1, Part: strings.Repeat("x", most+1)},
			{Kind: impl.PageLife, Life: 1, Number: 1, Part: "x"},
			{Kind: impl.PageLife, Life: 1, Number: 1, Part: strings.Repeat("\x00", most)},
		} {
			if form := impl.FormPage(p, width); form != "" {
				t.Errorf("width %d, %+v: %q", width, p, form)
			}
		}
	}
	for _, width := range noWidths {
		if form := impl.FormPage(impl.Page{Kind: 1, Life: 1, Number: 1}, width); form != "" {
			t.Errorf("width %d: %q", width, form)
		}
	}
}

// refused asks that a text reads as no page.
func refused(t *testing.T, text string, width int, why string) {
	t.Helper()
	if p, ok := impl.ReadPage(text, width); ok || p != (impl.Page{}) {
		t.Errorf("%s, width %d: %q read as %+v, %v", why, width, text, p, ok)
	}
}

// P1: the sums are right here, so that only the one thing is wrong.
func TestReadPageReadsNoOtherTextWithARightSum(t *testing.T) {
	for width := 1; width <= impl.MaxWidth; width++ {
		most := impl.SectorSize - width - 8
		last := most - 1
		refused(t, seal(body(0, 1, 1, 0, "", width), width), width, "kind 0")
		refused(t, seal(body(5, 1, 1, 0, "", width), width), width, "kind 5")
		refused(t, seal(body(255, 1, 1, 0, "", width), width), width, "kind 255")
		refused(t, seal(body(1, 0, 1, 0, "", width), width), width, "life 0")
		refused(t, seal(body(1, 60001, 1, 0, "", width), width), width, "life 60001")
		refused(t, seal(body(1, 65535, 1, 0, "", width), width), width, "life 65535")
		refused(t, seal(body(1, 1, 0, 0, "", width), width), width, "number 0")
		refused(t, seal(body(1, 1, 1000000001, 0, "", width), width), width, "number above the limit")
		refused(t, seal(body(1, 1, math.MaxUint32, 0, "", width), width), width, "number of all ones")
		refused(t, seal(body(1, 1, 1, byte(most+1), strings.Repeat("x", most), width), width), width, "size one too great")
		refused(t, seal(body(1, 1, 1, 255, strings.Repeat("x", most), width), width), width, "size 255")
		refused(t, seal(body(3, 1, 1, 1, "x", width), width), width, "life with a part")
		refused(t, seal(body(3, 1, 1, 0, "x", width), width), width, "life with a byte behind it")
		refused(t, seal(body(2, 1, 1, 2, "abc", width), width), width, "a byte behind the part")
		refused(t, seal(body(2, 1, 1, 0, strings.Repeat("\x00", last)+"\x01", width), width), width, "the last byte no zero")
		refused(t, strings.Repeat("\x00", impl.SectorSize), width, "zeros")
		refused(t, seal(strings.Repeat("\x00", impl.SectorSize-width), width), width, "zeros with a sum")
		refused(t, seal(body(2, 1, 1, 2, "ab", width)+"\x00", width), width, "a zero too many")
		refused(t, seal(body(2, 1, 1, 2, "ab", width)[:impl.SectorSize-width-1], width), width, "a zero too few")
		short := strings.TrimRight(body(2, 1, 1, 2, "ab", width), "\x00")
		refused(t, sumOf(short, width)+body(2, 1, 1, 2, "ab", width), width, "the sum is not over the zeros")
		refused(t, seal(short, width), width, "no zeros")
	}
}

// P1: one byte's change always changes the sum's last byte, as its factor is odd.
func TestReadPageReadsNoChangedForm(t *testing.T) {
	for width := 1; width <= impl.MaxWidth; width++ {
		form := formOf(impl.Page{Kind: 2, Life: 258, Number: 1 << 17, Part: "ab\x00c"}, width)
		for at := range form {
			for by := 1; by < 256; by++ {
				b := []byte(form)
				b[at] ^= byte(by)
				refused(t, string(b), width, "changed")
			}
		}
		for size := 0; size < impl.SectorSize; size++ {
			refused(t, form[:size], width, "cut short")
		}
		refused(t, form+"\x00", width, "longer")
		refused(t, form+form, width, "twice")
		for _, other := range noWidths {
			refused(t, form, other, "no width")
		}
	}
}

// P1: whatever is read has the text as its form, at any width, whichever width it was written with.
func TestWhatReadPageReadsHasThatForm(t *testing.T) {
	read := 0
	for width := 1; width <= impl.MaxWidth; width++ {
		for other := 1; other <= impl.MaxWidth; other++ {
			for _, p := range validPages(width) {
				form := formOf(p, width)
				q, ok := impl.ReadPage(form, other)
				if ok != (q != impl.Page{}) || ok && formOf(q, other) != form {
					t.Fatalf("width %d for %d, %+v: %+v, %v", other, width, p, q, ok)
				}
				if ok {
					read++
				}
			}
		}
	}
	if read == 0 {
		t.Error("nothing was read")
	}
}
