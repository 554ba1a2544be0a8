package impl

// Limits of disks.
const (
	MinSectors = 8
	MaxSectors = 200
	MaxPending = 300
)

// Write is a write that is not safe yet.
type Write struct {
	At   int
	Data string
}

// Disk is a disk.
type Disk struct {
	Sectors []string
	Pending []Write
}

// Op is something that is done to a disk.
type Op struct {
	Sync bool
	At   int
	Data string
}

// reader gives what is read at a place, and whether there is such a place.
type reader interface {
	read(at int) (sector, bool)
}

// plate is the sectors that are safe.
type plate []sector

func (p plate) read(at int) (sector, bool) {
	if at < 0 || at >= len(p) {
		return sector{}, false
	}
	return p[at], true
}

// held is a write that the disk holds in its memory.
type held struct {
	at   int
	data sector
}

// cover is what is pending, before what is read below it.
type cover struct {
	pending []held
	below   reader
}

func (c cover) read(at int) (sector, bool) {
	for i := len(c.pending) - 1; i >= 0; i-- {
		if c.pending[i].at == at {
			return c.pending[i].data, true
		}
	}
	return c.below.read(at)
}

// drive is a valid disk in memory of its own, so that it may be changed.
type drive struct {
	plate   plate
	pending []held
}

// NewDisk gives an empty disk.
func NewDisk(sectors int) Disk {
	if !isDiskSize(sectors) {
		return Disk{}
	}
	empty := drive{plate: make(plate, sectors)}
	return empty.disk()
}

// ValidDisk says whether a disk is valid.
func ValidDisk(d Disk) bool {
	if !isDiskSize(len(d.Sectors)) || len(d.Pending) > MaxPending {
		return false
	}
	for _, s := range d.Sectors {
		if len(s) != SectorSize {
			return false
		}
	}
	for _, w := range d.Pending {
		if !canWrite(len(d.Sectors), w.At, w.Data) {
			return false
		}
	}
	return true
}

// Sector reads a sector.
func Sector(d Disk, at int) string {
	if !ValidDisk(d) {
		return ""
	}
	s, ok := driveOf(d).reader().read(at)
	if !ok {
		return ""
	}
	return string(s[:])
}

// Perform does the first of some ops.
func Perform(d Disk, ops []Op, n int) Disk {
	if !ValidDisk(d) {
		return Disk{}
	}
	v := driveOf(d)
	for _, op := range ops[:min(max(n, 0), len(ops))] {
		v.do(op)
	}
	return v.disk()
}

// PowerLoss is what is left when the power goes.
func PowerLoss(d Disk, fates []int) Disk {
	if !ValidDisk(d) {
		return Disk{}
	}
	v := driveOf(d)
	for i, w := range v.pending {
		v.lay(w, fateOf(fates, i))
	}
	v.pending = nil
	return v.disk()
}

// isDiskSize says whether a disk may have so many sectors.
func isDiskSize(sectors int) bool {
	return sectors >= MinSectors && sectors <= MaxSectors
}

// canWrite says whether a disk of so many sectors takes such a write.
func canWrite(sectors int, at int, data string) bool {
	return at >= 0 && at < sectors && len(data) == SectorSize
}

// fateOf is how many bytes of a pending write get into its sector.
func fateOf(fates []int, i int) int {
	if i >= len(fates) {
		return 0
	}
	return min(max(fates[i], 0), SectorSize)
}

// driveOf copies a valid disk.
func driveOf(d Disk) drive {
	v := drive{plate: make(plate, len(d.Sectors))}
	for i, s := range d.Sectors {
		v.plate[i] = sectorOf(s)
	}
	for _, w := range d.Pending {
		v.pending = append(v.pending, held{at: w.At, data: sectorOf(w.Data)})
	}
	return v
}

// disk gives the drive out as a disk that shares nothing with it.
func (v drive) disk() Disk {
	var d Disk
	for _, s := range v.plate {
		d.Sectors = append(d.Sectors, string(s[:]))
	}
	for _, w := range v.pending {
		d.Pending = append(d.Pending, Write{At: w.at, Data: string(w.data[:])})
	}
	return d
}

// reader reads the drive as the one who uses it sees it.
func (v drive) reader() reader {
	return cover{pending: v.pending, below: v.plate}
}

// do does one op; one that the drive can't take does nothing.
func (v *drive) do(op Op) {
	switch {
	case op.Sync:
		v.sync()
	case canWrite(len(v.plate), op.At, op.Data) && len(v.pending) < MaxPending:
		v.pending = append(v.pending, held{at: op.At, data: sectorOf(op.Data)})
	}
}

// sync makes all that is pending safe.
func (v *drive) sync() {
	for _, w := range v.pending {
		v.lay(w, SectorSize)
	}
	v.pending = nil
}

// lay gets the first bytes of a write into its sector; the others stay.
func (v *drive) lay(w held, size int) {
	copy(v.plate[w.at][:size], w.data[:size])
}
