package impl

const Fan = 16
const Pages = 4096
const MaxOut = 65536
const MaxFrames = 512

const DInvalid = 0
const DTable = 1
const DBlock = 2
const DPage = 3
const DBad = 4

type Desc struct {
	Kind int
	Out  int
	Perm int
}

type Mem struct {
	Words []uint64
}

type Place struct {
	Frame int
	Level int
	Page  int
}

const topLevel = 1
const midLevel = 2
const lastLevel = 3

const maxPerm = 7

// The fields of a word. What lies in none of them must be 0.
const (
	validBit  uint64 = 1
	splitBit  uint64 = 1 << 1
	permShift        = 2
	permMask  uint64 = maxPerm << permShift
	outShift         = 12
	outMask   uint64 = (MaxOut - 1) << outShift
	usedMask  uint64 = validBit | splitBit | permMask | outMask
)

// form is the kind of a word as far as its bits alone tell it; only the level
// says which forms have a meaning.
type form int

const (
	formInvalid form = iota
	formTable
	formBlock
	formPage
	formBad
)

// table is the contents of one frame of table memory.
type table [Fan]uint64

func Decode(level int, w uint64) Desc {
	kind := kindAt(level, formOf(w))
	if kind == DInvalid || kind == DBad {
		return Desc{Kind: kind}
	}
	return Desc{Kind: kind, Out: outOf(w), Perm: permOf(w)}
}

func Encode(level int, d Desc) uint64 {
	w := uint64(d.Out)<<outShift | uint64(d.Perm)<<permShift
	switch d.Kind {
	case DTable, DPage:
		w |= validBit | splitBit
	case DBlock:
		w |= validBit
	default:
		return 0
	}
	// A number that does not fit its field comes back as another one.
	if Decode(level, w) != d {
		return 0
	}
	return w
}

func Places(m Mem) ([]Place, bool) {
	if !validMem(m) {
		return nil, false
	}
	places := placesOf(m)
	return places, isTree(m, places)
}

// placesOf takes a valid memory only.
func placesOf(m Mem) []Place {
	return addPlaces(nil, m, Place{Frame: 0, Level: topLevel, Page: 0})
}

func formOf(w uint64) form {
	if w&validBit == 0 {
		return formInvalid
	}
	if w&^usedMask != 0 {
		return formBad
	}
	split := w&splitBit != 0
	mapped := w&permMask != 0
	switch {
	case split && !mapped:
		return formTable
	case split && mapped:
		return formPage
	case mapped && outOf(w)%Fan == 0:
		return formBlock
	}
	return formBad
}

func kindAt(level int, f form) int {
	if level < topLevel || level > lastLevel {
		return DBad
	}
	switch {
	case f == formInvalid:
		return DInvalid
	case f == formTable && level < lastLevel:
		return DTable
	case f == formBlock && level == midLevel:
		return DBlock
	case f == formPage && level == lastLevel:
		return DPage
	}
	return DBad
}

func outOf(w uint64) int {
	return int((w & outMask) >> outShift)
}

func permOf(w uint64) int {
	return int((w & permMask) >> permShift)
}

func validMem(m Mem) bool {
	n := len(m.Words)
	return n >= Fan && n <= Fan*MaxFrames && n%Fan == 0
}

func hasFrame(m Mem, frame int) bool {
	return frame >= 0 && frame < len(m.Words)/Fan
}

// tableAt copies the table out, so that no one who holds it holds the memory.
func tableAt(m Mem, frame int) table {
	return table(m.Words[frame*Fan : (frame+1)*Fan])
}

// entryPages is how many pages one entry of a table of the level covers.
func entryPages(level int) int {
	switch level {
	case topLevel:
		return Fan * Fan
	case midLevel:
		return Fan
	}
	return 1
}

// addPlaces ends even where a memory leads round in a circle, since each step
// goes a level down and no word of the last level is a table.
func addPlaces(places []Place, m Mem, p Place) []Place {
	places = append(places, p)
	if p.Level == lastLevel {
		return places
	}
	for i, w := range tableAt(m, p.Frame) {
		d := Decode(p.Level, w)
		if d.Kind == DTable && hasFrame(m, d.Out) {
			below := Place{Frame: d.Out, Level: p.Level + 1, Page: p.Page + i*entryPages(p.Level)}
			places = addPlaces(places, m, below)
		}
	}
	return places
}

func isTree(m Mem, places []Place) bool {
	var reached [MaxFrames]bool
	for _, p := range places {
		if reached[p.Frame] || !soundTable(m, p) {
			return false
		}
		reached[p.Frame] = true
	}
	return true
}

// soundTable tells whether no word of the place is bad or leads out of memory.
func soundTable(m Mem, p Place) bool {
	for _, w := range tableAt(m, p.Frame) {
		d := Decode(p.Level, w)
		if d.Kind == DBad || d.Kind == DTable && !hasFrame(m, d.Out) {
			return false
		}
	}
	return true
}
