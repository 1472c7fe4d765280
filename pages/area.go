package pages

import (
	"trellis/api"
	"trellis/disk"
)

// Where on the disk a store begins: its label, then its log; the homes follow.
const (
	labelAt = 0
	logAt   = 1
)

// magic: what tells a label from other sectors.
const magic = "trellis2"

// content: a page's.
type content [api.PageBytes]byte

// area: the sectors of a disk on which a store lies.
type area struct {
	disk  *disk.Disk
	log   int // sectors of the log
	pages int
}

// fits: can a store lie there? The sum of the sectors is not made: it may be beyond the range.
func (a area) fits() bool {
	return a.disk != nil && a.log >= api.MinLog && a.pages >= 1 && a.pages <= api.MaxPages &&
		a.log <= a.disk.Sectors()-logAt-a.pages
}

func (a area) has(page int) bool {
	return page >= 0 && page < a.pages
}

// home: the sector that is a page's home.
func (a area) home(page int) int {
	return logAt + a.log + page
}

// label: the bytes of the area's label.
func (a area) label() []byte {
	b := make([]byte, api.SectorSize)
	copy(b[4:12], magic)
	lay(b[12:16], a.log)
	lay(b[16:20], a.pages)
	seal(b)
	return b
}

// areaOn: where the store lies that the disk's label tells of.
func areaOn(d *disk.Disk) (area, api.Errno) {
	b, code := d.Read(labelAt)
	if code != api.OK {
		return area{}, code
	}
	a := area{disk: d, log: number(b[12:16]), pages: number(b[16:20])}
	if !sealed(b) || string(b[4:12]) != magic || !a.fits() {
		return area{}, api.ErrNoStore
	}
	return a, api.OK
}

func (a area) writeHome(page int, c content) api.Errno {
	b := make([]byte, api.SectorSize)
	lay(b[4:8], page)
	copy(b[8:], c[:])
	seal(b)
	return a.disk.Write(a.home(page), b)
}

func (a area) writeEmptyHomes() api.Errno {
	for page := range a.pages {
		if code := a.writeHome(page, content{}); code != api.OK {
			return code
		}
	}
	return api.OK
}

// readHome: what a page's home holds; ErrPage, if its sector is none.
func (a area) readHome(page int) (content, api.Errno) {
	b, code := a.disk.Read(a.home(page))
	if code != api.OK {
		return content{}, code
	}
	if !sealed(b) || number(b[4:8]) != page {
		return content{}, api.ErrPage
	}
	return content(b[8:]), api.OK
}

// faultOf: OK, or why the batch is none of a commit.
func (a area) faultOf(batch []api.PageImage) api.Errno {
	if len(batch) == 0 || len(batch) > api.MaxBatch {
		return api.ErrBatch
	}
	for _, image := range batch {
		if len(image.Data) != api.PageBytes {
			return api.ErrBatch
		}
	}
	var seen [api.MaxPages]bool
	for _, image := range batch {
		if !a.has(image.Page) || seen[image.Page] {
			return api.ErrPage
		}
		seen[image.Page] = true
	}
	return api.OK
}
