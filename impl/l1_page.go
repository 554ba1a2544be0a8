// Package impl: a map on a disk that loses power.
package impl

import "errors"

// Limits of pages.
const (
	SectorSize = 64
	MaxWidth   = 8
	MaxLife    = 60000
	MaxNumber  = 1000000000
)

// Kinds of pages.
const (
	PagePart = 1
	PageLast = 2
	PageLife = 3
	PageRoot = 4
)

// Where the fields of a page begin, counted from behind its sum.
const (
	lifePlace   = 1
	numberPlace = 3
	sizePlace   = 7
	partPlace   = 8
)

// The sum's beginning and what it is multiplied by.
const (
	sumStart  uint64 = 14695981039346656037
	sumFactor uint64 = 1099511628211
)

// Page is what stands in a sector.
type Page struct {
	Kind   int
	Life   int
	Number int
	Part   string
}

// sector is the bytes of one sector.
type sector [SectorSize]byte

var errNoPage = errors.New("no page")

// pageFault wraps errNoPage with what was wrong.
type pageFault struct {
	wrong string
	err   error
}

func (f *pageFault) Error() string {
	return f.err.Error() + ": " + f.wrong
}

func (f *pageFault) Unwrap() error {
	return f.err
}

// noPage is the error of a text with this wrong.
func noPage(wrong string) error {
	return &pageFault{wrong: wrong, err: errNoPage}
}

// Sum is the sum of a text.
func Sum(text string, width int) string {
	if !isWidth(width) {
		return ""
	}
	sum := sumStart
	for i := 0; i < len(text); i++ {
		sum ^= uint64(text[i])
		sum *= sumFactor
	}
	var all [MaxWidth]byte
	putNumber(all[:], sum)
	return string(all[MaxWidth-width:])
}

// FormPage writes a page.
func FormPage(p Page, width int) string {
	if !validPage(p, width) {
		return ""
	}
	form := fillPage(p, width)
	return string(form[:])
}

// ReadPage reads a page.
func ReadPage(s string, width int) (Page, bool) {
	p, err := parsePage(s, width)
	var fault *pageFault
	if errors.As(err, &fault) {
		return Page{}, false
	}
	return p, true
}

// isWidth says whether a number is a width.
func isWidth(width int) bool {
	return width >= 1 && width <= MaxWidth
}

// partRoom is how many bytes of a Part a page can hold.
func partRoom(width int) int {
	return SectorSize - width - partPlace
}

// validPage says whether a page is valid for a width.
func validPage(p Page, width int) bool {
	switch {
	case !isWidth(width):
		return false
	case p.Kind < PagePart || p.Kind > PageRoot:
		return false
	case p.Life < 1 || p.Life > MaxLife:
		return false
	case p.Number < 1 || p.Number > MaxNumber:
		return false
	case p.Kind == PageLife:
		return p.Part == ""
	}
	return len(p.Part) <= partRoom(width)
}

// fillPage lays the bytes of a valid page.
func fillPage(p Page, width int) sector {
	var form sector
	body := form[width:]
	putNumber(body[:lifePlace], uint64(p.Kind))
	putNumber(body[lifePlace:numberPlace], uint64(p.Life))
	putNumber(body[numberPlace:sizePlace], uint64(p.Number))
	putNumber(body[sizePlace:partPlace], uint64(len(p.Part)))
	copy(body[partPlace:], p.Part)
	// The sum comes last, as it is over all the rest, the zeros too.
	copy(form[:width], Sum(string(body), width))
	return form
}

// parsePage gives the page whose form a text is, or a pageFault.
func parsePage(s string, width int) (Page, error) {
	if !isWidth(width) {
		return Page{}, noPage("no width")
	}
	if len(s) != SectorSize {
		return Page{}, noPage("not the size of a sector")
	}
	form := sectorOf(s)
	body := form[width:]
	size := int(takeNumber(body[sizePlace:partPlace]))
	if size > partRoom(width) {
		return Page{}, noPage("part behind the end")
	}
	p := Page{
		Kind:   int(takeNumber(body[:lifePlace])),
		Life:   int(takeNumber(body[lifePlace:numberPlace])),
		Number: int(takeNumber(body[numberPlace:sizePlace])),
		Part:   string(body[partPlace : partPlace+size]),
	}
	if !validPage(p, width) {
		return Page{}, noPage("page not valid")
	}
	// A page has one form alone: this asks for the sum and for the zeros at once.
	if fillPage(p, width) != form {
		return Page{}, noPage("wrong sum or bytes behind the part")
	}
	return p, nil
}

// sectorOf is the sector of a text of SectorSize bytes.
func sectorOf(text string) sector {
	var s sector
	copy(s[:], text)
	return s
}

// putNumber fills bytes with the lowest bytes of a number, the highest byte first.
func putNumber(to []byte, number uint64) {
	for i := len(to) - 1; i >= 0; i-- {
		to[i] = byte(number)
		number >>= 8
	}
}

// takeNumber is the number that stands in some bytes, the highest byte first.
func takeNumber(from []byte) uint64 {
	var number uint64
	for _, b := range from {
		number = number<<8 | uint64(b)
	}
	return number
}
