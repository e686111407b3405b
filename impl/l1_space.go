package impl

import (
	"iter"
	"slices"
	"sync"
)

// endOfAddresses is the first number that is no address.
const endOfAddresses = 1 << 62

// The numbers of the address space.
const (
	PageSize      = 1024
	MaxSpacePages = 4096
	MaxSpaceOps   = 400
	MaxAccess     = 4096
)

// The codes of answers.
const (
	CodeOK      = 0
	CodeMemory  = 1
	CodeFault   = 2
	CodeInvalid = 3
	CodeDouble  = 4
	CodeCorrupt = 5
	CodeRange   = 6
)

// The kinds of an operation on a space.
const (
	SpaceCommit   = 0
	SpaceDecommit = 1
	SpaceLock     = 2
	SpaceUnlock   = 3
	SpaceLoad     = 4
	SpaceStore    = 5
)

// SpaceOp is an operation: pages from Page on, Count of them, or bytes from Addr on.
type SpaceOp struct {
	Kind  int
	Page  int
	Count int
	Addr  uint64
	Len   int
	Data  []byte
}

// SpaceAnswer answers an operation.
type SpaceAnswer struct {
	Code int
	Data []byte
}

// SpaceReport is what a run did.
type SpaceReport struct {
	OK        bool
	Answers   []SpaceAnswer
	Committed int
	Open      []int
}

// page is a committed page: its bytes, and whether it is locked.
type page struct {
	bytes  [PageSize]byte
	locked bool
}

// space is an address space. Only committed pages have an entry in held, so a page that
// is committed anew begins with zeros, and an entry is always of a page of the space.
type space struct {
	mutex  sync.Mutex
	pages  int
	budget int
	held   map[int]*page
}

// PagesOf are the first and the last page that n bytes from addr on touch.
func PagesOf(addr uint64, n int) (int, int, bool) {
	if n < 1 || n > MaxSpacePages*PageSize {
		return 0, 0, false
	}
	last := addr + uint64(n-1)
	if last < addr || last >= endOfAddresses {
		return 0, 0, false
	}
	return int(addr / PageSize), int(last / PageSize), true
}

// RunSpace runs operations over a space of pages with a budget of committed ones.
func RunSpace(pages int, budget int, ops []SpaceOp) SpaceReport {
	if pages < 0 || pages > MaxSpacePages || budget < 0 || len(ops) > MaxSpaceOps {
		return SpaceReport{}
	}
	s := newSpace(pages, budget)
	answers := make([]SpaceAnswer, 0, len(ops))
	for _, op := range ops {
		answers = append(answers, s.run(op))
	}
	committed, open := s.told()
	return SpaceReport{OK: true, Answers: answers, Committed: committed, Open: open}
}

func newSpace(pages int, budget int) *space {
	return &space{pages: pages, budget: budget, held: map[int]*page{}}
}

// run answers one operation.
func (s *space) run(op SpaceOp) SpaceAnswer {
	s.mutex.Lock()
	defer s.mutex.Unlock()
	switch op.Kind {
	case SpaceCommit:
		return SpaceAnswer{Code: s.commit(op.Page, op.Count)}
	case SpaceDecommit:
		return SpaceAnswer{Code: s.decommit(op.Page, op.Count)}
	case SpaceLock:
		return SpaceAnswer{Code: s.setLock(op.Page, op.Count, true)}
	case SpaceUnlock:
		return SpaceAnswer{Code: s.setLock(op.Page, op.Count, false)}
	case SpaceLoad:
		return s.load(op.Addr, op.Len)
	case SpaceStore:
		return SpaceAnswer{Code: s.store(op.Addr, op.Data)}
	}
	return SpaceAnswer{Code: CodeRange}
}

// told is how many pages are committed, and which of them are open.
func (s *space) told() (int, []int) {
	s.mutex.Lock()
	defer s.mutex.Unlock()
	var open []int
	for k, p := range s.held {
		if !p.locked {
			open = append(open, k)
		}
	}
	slices.Sort(open)
	return len(s.held), open
}

// inside tells whether the pages are some of the space's. The count is held against what
// is left behind the first page, since a sum of the two could wrap.
func (s *space) inside(first int, count int) bool {
	return count >= 1 && first >= 0 && count <= s.pages-first
}

// heldOf is how many of the pages are committed.
func (s *space) heldOf(first int, count int) int {
	n := 0
	for k := range count {
		if s.held[first+k] != nil {
			n++
		}
	}
	return n
}

func (s *space) commit(first int, count int) int {
	if !s.inside(first, count) || s.heldOf(first, count) > 0 {
		return CodeRange
	}
	if len(s.held)+count > s.budget {
		return CodeMemory
	}
	for k := range count {
		s.held[first+k] = &page{}
	}
	return CodeOK
}

func (s *space) decommit(first int, count int) int {
	if !s.inside(first, count) || s.heldOf(first, count) < count {
		return CodeRange
	}
	for k := range count {
		delete(s.held, first+k)
	}
	return CodeOK
}

func (s *space) setLock(first int, count int, locked bool) int {
	if !s.inside(first, count) || s.heldOf(first, count) < count {
		return CodeRange
	}
	for k := range count {
		s.held[first+k].locked = locked
	}
	return CodeOK
}

func (s *space) load(addr uint64, n int) SpaceAnswer {
	code := s.access(addr, n)
	if code != CodeOK {
		return SpaceAnswer{Code: code}
	}
	data := make([]byte, 0, n)
	for piece := range s.pieces(addr, n) {
		data = append(data, piece...)
	}
	return SpaceAnswer{Code: CodeOK, Data: data}
}

func (s *space) store(addr uint64, data []byte) int {
	code := s.access(addr, len(data))
	if code != CodeOK {
		return code
	}
	for piece := range s.pieces(addr, len(data)) {
		data = data[copy(piece, data):]
	}
	return CodeOK
}

// access tells by a code whether n bytes from addr on may be touched. It looks at every
// page before a byte is touched, so that a refused store changes nothing.
func (s *space) access(addr uint64, n int) int {
	if n < 0 || n > MaxAccess {
		return CodeRange
	}
	if n == 0 {
		return CodeOK
	}
	first, last, ok := PagesOf(addr, n)
	if !ok {
		return CodeFault
	}
	for k := first; k <= last; k++ {
		p := s.held[k]
		if p == nil || p.locked {
			return CodeFault
		}
	}
	return CodeOK
}

// pieces goes through the n bytes from addr on, cut at the ends of pages; what is written
// to a piece is written to its page. All of the pages must be committed.
func (s *space) pieces(addr uint64, n int) iter.Seq[[]byte] {
	return func(yield func([]byte) bool) {
		for done := 0; done < n; {
			at := addr + uint64(done)
			from := int(at % PageSize)
			end := min(from+n-done, PageSize)
			if !yield(s.held[int(at/PageSize)].bytes[from:end]) {
				return
			}
			done += end - from
		}
	}
}
