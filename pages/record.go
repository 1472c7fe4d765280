package pages

import (
	"trellis/api"
	"trellis/wal"
)

// commitKind: the kind of a commit's record.
const commitKind = 1

// A commit's payload: how many pages there are; then, for each, its number and its content.
const (
	countBytes = 2
	pageAt     = 2 // behind the page's number its content begins
	pieceBytes = pageAt + api.PageBytes
)

// room: the sectors of the log that a commit of so many pages takes.
func room(pages int) int {
	return wal.Need(countBytes + pieceBytes*pages)
}

// payload: that of a commit's record.
func payload(batch []api.PageImage) []byte {
	out := make([]byte, countBytes+pieceBytes*len(batch))
	lay(out[:countBytes], len(batch))
	for i, image := range batch {
		piece := out[countBytes+pieceBytes*i:]
		lay(piece[:pageAt], image.Page)
		copy(piece[pageAt:], image.Data)
	}
	return out
}

// batchOf: the batch of which the record has the form; which pages there are is not asked here.
func batchOf(r api.LogRec) ([]api.PageImage, bool) {
	if r.Kind != commitKind || len(r.Data) < countBytes {
		return nil, false
	}
	count := number(r.Data[:countBytes])
	if len(r.Data) != countBytes+pieceBytes*count {
		return nil, false
	}
	var out []api.PageImage
	for i := range count {
		piece := r.Data[countBytes+pieceBytes*i:][:pieceBytes]
		out = append(out, api.PageImage{Page: number(piece[:pageAt]), Data: piece[pageAt:]})
	}
	return out, true
}
