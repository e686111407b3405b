package tests

import (
	"bytes"
	"math"
	"reflect"
	"slices"
	"testing"

	"loop.example/s01868/impl"
)

const (
	top   = uint64(1) << 62
	page  = impl.PageSize
	okay  = impl.CodeOK
	full  = impl.CodeMemory
	fault = impl.CodeFault
	wrong = impl.CodeRange
)

func commit(first, count int) impl.SpaceOp {
	return impl.SpaceOp{Kind: impl.SpaceCommit, Page: first, Count: count}
}

func decommit(first, count int) impl.SpaceOp {
	return impl.SpaceOp{Kind: impl.SpaceDecommit, Page: first, Count: count}
}

func lock(first, count int) impl.SpaceOp {
	return impl.SpaceOp{Kind: impl.SpaceLock, Page: first, Count: count}
}

func unlock(first, count int) impl.SpaceOp {
	return impl.SpaceOp{Kind: impl.SpaceUnlock, Page: first, Count: count}
}

func load(addr uint64, n int) impl.SpaceOp {
	return impl.SpaceOp{Kind: impl.SpaceLoad, Addr: addr, Len: n}
}

func store(addr uint64, data ...byte) impl.SpaceOp {
	return impl.SpaceOp{Kind: impl.SpaceStore, Addr: addr, Data: data}
}

// asked is an operation with the answer that the document asks for.
type asked struct {
	op   impl.SpaceOp
	code int
	data string
}

// expect runs the operations and holds the answers against those asked for.
func expect(t *testing.T, pages, budget int, row []asked, committed int, open ...int) {
	t.Helper()
	var ops []impl.SpaceOp
	for _, a := range row {
		ops = append(ops, a.op)
	}
	r := impl.RunSpace(pages, budget, ops)
	if !r.OK || len(r.Answers) != len(row) {
		t.Fatalf("OK %v, %d answers to %d operations", r.OK, len(r.Answers), len(row))
	}
	for i, a := range row {
		if g := r.Answers[i]; g.Code != a.code || string(g.Data) != a.data {
			t.Errorf("operation %d: %v %q, not %v %q", i, g.Code, g.Data, a.code, a.data)
		}
	}
	if r.Committed != committed || !slices.Equal(r.Open, open) {
		t.Errorf("committed %d, open %v, not %d, %v", r.Committed, r.Open, committed, open)
	}
}

func TestPagesOfEdges(t *testing.T) {
	const most = impl.MaxSpacePages * page
	rows := []struct {
		addr        uint64
		n           int
		first, last int
		ok          bool
	}{
		{0, 1, 0, 0, true},
		{0, page, 0, 0, true},
		{0, page + 1, 0, 1, true},
		{page - 1, 1, 0, 0, true},
		{page - 1, 2, 0, 1, true},
		{page - 1, page + 2, 0, 2, true},
		{3 * page, 2 * page, 3, 4, true},
		{0, most, 0, impl.MaxSpacePages - 1, true},
		{1, most, 0, impl.MaxSpacePages, true},
		{0, most + 1, 0, 0, false},
		{0, math.MaxInt, 0, 0, false},
		{0, 0, 0, 0, false},
		{7, -1, 0, 0, false},
		{7, math.MinInt, 0, 0, false},
		{top - 1, 1, 1<<52 - 1, 1<<52 - 1, true},
		{top - 1, 2, 0, 0, false},
		{top - page, page, 1<<52 - 1, 1<<52 - 1, true},
		{top - page, page + 1, 0, 0, false},
		{top - most, most, 1<<52 - impl.MaxSpacePages, 1<<52 - 1, true},
		{top, 1, 0, 0, false},
		{1 << 63, 1, 0, 0, false},
		{math.MaxUint64, 1, 0, 0, false},
		{math.MaxUint64, 2, 0, 0, false},
		{math.MaxUint64 - 5, most, 0, 0, false},
	}
	for _, x := range rows {
		first, last, ok := impl.PagesOf(x.addr, x.n)
		if first != x.first || last != x.last || ok != x.ok {
			t.Errorf("PagesOf(%d, %d) = %d, %d, %v", x.addr, x.n, first, last, ok)
		}
	}
}

func TestSpaceKeepsWhatWasStored(t *testing.T) {
	expect(t, 4, 4, []asked{
		{commit(0, 3), okay, ""},
		{load(0, 3), okay, "\x00\x00\x00"},
		{store(1, 5, 6, 7), okay, ""},
		{load(0, 5), okay, "\x00\x05\x06\x07\x00"},
		{store(2, 9), okay, ""},
		{load(1, 3), okay, "\x05\x09\x07"},
		{store(page-2, 1, 2, 3, 4), okay, ""},
		{load(page-3, 6), okay, "\x00\x01\x02\x03\x04\x00"},
		{load(page, 2), okay, "\x03\x04"},
		{lock(1, 1), okay, ""},
		{unlock(1, 1), okay, ""},
		{load(page, 2), okay, "\x03\x04"},
		{decommit(1, 1), okay, ""},
		{load(page-1, 1), okay, "\x02"},
		{commit(1, 1), okay, ""},
		{load(page-1, 3), okay, "\x02\x00\x00"},
	}, 3, 0, 1, 2)
}

func TestSpaceAccessOverAPagesEnd(t *testing.T) {
	expect(t, 3, 3, []asked{
		{commit(0, 1), okay, ""},
		{store(page-1, 1, 2), fault, ""}, // page 1 is not committed
		{load(page-1, 2), fault, ""},
		{load(page-1, 1), okay, "\x00"},
		{commit(1, 1), okay, ""},
		{store(page-1, 3, 4), okay, ""},
		{lock(1, 1), okay, ""},
		{store(page-1, 5, 6), fault, ""}, // page 1 is locked
		{load(page-1, 2), fault, ""},
		{load(page-1, 1), okay, "\x03"},
		{unlock(1, 1), okay, ""},
		{lock(0, 1), okay, ""},
		{store(page-1, 5, 6), fault, ""}, // page 0 is locked
		{load(page, 1), okay, "\x04"},
		{commit(2, 1), okay, ""},
		{store(3*page-1, 7), okay, ""},
		{store(3*page-1, 8, 8), fault, ""}, // there is no page 3
		{load(3*page-1, 2), fault, ""},
		{load(3*page, 1), fault, ""},
		{load(3*page-1, 1), okay, "\x07"},
	}, 3, 1, 2)
}

func TestSpaceLockedPageInTheMiddle(t *testing.T) {
	long := bytes.Repeat([]byte{9}, 3*page)
	expect(t, 3, 3, []asked{
		{commit(0, 3), okay, ""},
		{lock(1, 1), okay, ""},
		{store(0, long...), fault, ""},
		{load(0, 3*page), fault, ""},
		{load(0, page), okay, string(make([]byte, page))},
		{load(2*page, page), okay, string(make([]byte, page))},
	}, 3, 0, 2)
}

func TestSpaceLengths(t *testing.T) {
	most := bytes.Repeat([]byte{1, 2, 3, 4}, impl.MaxAccess/4)
	more := append(slices.Clone(most), 5)
	expect(t, 6, 6, []asked{
		{load(0, 0), okay, ""},
		{load(math.MaxUint64, 0), okay, ""},
		{store(math.MaxUint64), okay, ""},
		{load(0, -1), wrong, ""},
		{load(0, math.MinInt), wrong, ""},
		{load(0, impl.MaxAccess), fault, ""},
		{load(0, impl.MaxAccess+1), wrong, ""},
		{load(0, math.MaxInt), wrong, ""},
		{store(0, more...), wrong, ""},
		{commit(0, 6), okay, ""},
		{store(0, most...), okay, ""},
		{load(0, impl.MaxAccess), okay, string(most)},
		{store(page+1, most...), okay, ""}, // five pages
		{load(page+1, impl.MaxAccess), okay, string(most)},
		{load(page+1, impl.MaxAccess+1), wrong, ""},
		{store(page+1, more...), wrong, ""},
		{load(page+1+impl.MaxAccess, 1), okay, "\x00"},
		{load(0, page+1), okay, string(most[:page+1])},
	}, 6, 0, 1, 2, 3, 4, 5)
}

func TestSpaceTakesOnlyItsOwnFields(t *testing.T) {
	expect(t, 2, 2, []asked{
		{commit(0, 1), okay, ""},
		{impl.SpaceOp{Kind: impl.SpaceStore, Addr: 3, Len: -7, Page: -1, Count: -1, Data: []byte{8, 9}}, okay, ""},
		{impl.SpaceOp{Kind: impl.SpaceLoad, Addr: 3, Len: 2, Page: -1, Count: -1, Data: make([]byte, 5000)}, okay, "\x08\x09"},
		{impl.SpaceOp{Kind: impl.SpaceLock, Page: 0, Count: 1, Addr: top, Len: -1, Data: make([]byte, 5000)}, okay, ""},
	}, 1)
}

func TestSpaceAddressesThatAreNone(t *testing.T) {
	row := []asked{{commit(0, impl.MaxSpacePages), okay, ""}}
	for _, a := range []uint64{top - 1, top, top + 1, 1 << 63, math.MaxUint64, math.MaxUint64 - 1, impl.MaxSpacePages * page} {
		row = append(row, asked{load(a, 1), fault, ""}, asked{load(a, 3), fault, ""}, asked{store(a, 1), fault, ""}, asked{store(a, 1, 2, 3), fault, ""})
	}
	row = append(row, asked{load(0, 3), okay, "\x00\x00\x00"})
	r := impl.RunSpace(impl.MaxSpacePages, impl.MaxSpacePages, nil)
	if !r.OK || r.Committed != 0 {
		t.Error("the greatest space", r)
	}
	expect(t, impl.MaxSpacePages, impl.MaxSpacePages, row, impl.MaxSpacePages, allBelow(impl.MaxSpacePages)...)
}

func allBelow(n int) []int {
	var all []int
	for i := range n {
		all = append(all, i)
	}
	return all
}

func TestSpaceBudget(t *testing.T) {
	expect(t, 8, 3, []asked{
		{commit(0, 4), full, ""},
		{commit(5, 3), okay, ""}, // met exactly
		{commit(0, 1), full, ""},
		{commit(7, 1), wrong, ""}, // committed already: told ahead of the budget
		{commit(4, 2), wrong, ""},
		{lock(5, 2), okay, ""},
		{commit(0, 1), full, ""}, // a locked page counts
		{decommit(6, 1), okay, ""},
		{commit(0, 2), full, ""}, // missed by one
		{commit(0, 1), okay, ""},
	}, 3, 0, 7)
	expect(t, 4, 0, []asked{{commit(0, 1), full, ""}, {commit(0, 0), wrong, ""}, {load(0, 1), fault, ""}}, 0)
	expect(t, 4, math.MaxInt, []asked{{commit(0, 4), okay, ""}}, 4, 0, 1, 2, 3)
	expect(t, 4, 4, []asked{{commit(0, 4), okay, ""}}, 4, 0, 1, 2, 3)
	expect(t, 4, 3, []asked{{commit(0, 4), full, ""}}, 0)
}

func TestSpaceLocks(t *testing.T) {
	expect(t, 5, 5, []asked{
		{lock(1, 1), wrong, ""},
		{unlock(1, 1), wrong, ""},
		{decommit(1, 1), wrong, ""},
		{commit(1, 2), okay, ""},
		{lock(1, 3), wrong, ""}, // page 3 is not committed: none of them is locked
		{load(1*page, 1), okay, "\x00"},
		{decommit(0, 2), wrong, ""},
		{store(1*page, 4), okay, ""},
		{lock(1, 2), okay, ""},
		{lock(1, 1), okay, ""},
		{unlock(0, 2), wrong, ""},
		{load(1*page, 1), fault, ""},
		{unlock(1, 1), okay, ""},
		{unlock(1, 1), okay, ""},
		{load(1*page, 1), okay, "\x04"},
		{decommit(2, 1), okay, ""}, // a locked one
		{commit(2, 1), okay, ""},   // is open when it is committed again
		{load(2*page, 1), okay, "\x00"},
		{lock(1, 1), okay, ""},
	}, 2, 2)
}

func TestSpacePagesThatAreNone(t *testing.T) {
	var row []asked
	for _, kind := range []func(int, int) impl.SpaceOp{commit, decommit, lock, unlock} {
		for _, x := range [][2]int{
			{0, 0}, {0, -1}, {0, math.MinInt}, {0, 4}, {0, math.MaxInt},
			{-1, 1}, {-1, 2}, {math.MinInt, 1}, {math.MinInt, math.MaxInt}, {math.MinInt, math.MinInt},
			{3, 1}, {3, 0}, {2, 2}, {1, math.MaxInt}, {math.MaxInt, 1}, {math.MaxInt, 2}, {math.MaxInt, math.MaxInt},
		} {
			row = append(row, asked{kind(x[0], x[1]), wrong, ""})
		}
	}
	for _, kind := range []int{-1, 6, 7, math.MinInt, math.MaxInt} {
		row = append(row, asked{impl.SpaceOp{Kind: kind, Page: 0, Count: 1, Len: 1}, wrong, ""})
	}
	expect(t, 3, 3, row, 0)
	expect(t, 3, 3, append([]asked{{commit(0, 3), okay, ""}}, row...), 3, 0, 1, 2)
	expect(t, 0, 3, []asked{{commit(0, 1), wrong, ""}, {commit(0, 0), wrong, ""}, {load(0, 1), fault, ""}, {load(0, 0), okay, ""}}, 0)
}

func TestSpaceRunsThatAreNotValid(t *testing.T) {
	op := []impl.SpaceOp{commit(0, 1)}
	many := make([]impl.SpaceOp, impl.MaxSpaceOps+1)
	rows := []struct {
		pages, budget int
		ops           []impl.SpaceOp
	}{
		{-1, 1, op}, {math.MinInt, 1, op}, {impl.MaxSpacePages + 1, 1, op}, {math.MaxInt, 1, op},
		{1, -1, op}, {1, math.MinInt, op}, {1, 1, many}, {-1, -1, many},
	}
	for i, x := range rows {
		if r := impl.RunSpace(x.pages, x.budget, x.ops); !reflect.DeepEqual(r, impl.SpaceReport{}) {
			t.Error(i, r.OK, len(r.Answers), r.Committed, r.Open)
		}
	}
	if r := impl.RunSpace(1, 1, many[1:]); !r.OK || len(r.Answers) != impl.MaxSpaceOps {
		t.Error("as many operations as may be", r.OK, len(r.Answers))
	}
	expect(t, 1, 1, nil, 0)
}

func TestSpaceSharesNoMemory(t *testing.T) {
	data := []byte{1, 2, 3}
	ops := []impl.SpaceOp{commit(0, 1), store(0, data...), load(0, 3), load(0, 3), {Kind: impl.SpaceStore, Addr: 8, Data: data}, load(0, 16)}
	ops[1].Data = data
	r := impl.RunSpace(1, 1, ops)
	clear(r.Answers[2].Data[:cap(r.Answers[2].Data)])
	if string(r.Answers[3].Data) != "\x01\x02\x03" || string(r.Answers[5].Data[:3]) != "\x01\x02\x03" || string(data) != "\x01\x02\x03" {
		t.Error("an answer shares memory", r.Answers, data)
	}
	if ops[0].Kind != impl.SpaceCommit || ops[2].Data != nil {
		t.Error("the operations were changed", ops)
	}
}

// model is a space told in the plainest way: a flat row of bytes and two of flags.
type model struct {
	bytes             []byte
	committed, locked []bool
	budget            int
}

func newModel(pages, budget int) *model {
	return &model{make([]byte, pages*page), make([]bool, pages), make([]bool, pages), budget}
}

func (m *model) run(op impl.SpaceOp) impl.SpaceAnswer {
	switch op.Kind {
	case impl.SpaceLoad:
		code := m.access(op.Addr, op.Len)
		if code != okay || op.Len == 0 {
			return impl.SpaceAnswer{Code: code}
		}
		return impl.SpaceAnswer{Data: slices.Clone(m.bytes[op.Addr:][:op.Len])}
	case impl.SpaceStore:
		code := m.access(op.Addr, len(op.Data))
		if code == okay && len(op.Data) > 0 {
			copy(m.bytes[op.Addr:], op.Data)
		}
		return impl.SpaceAnswer{Code: code}
	}
	return impl.SpaceAnswer{Code: m.setPages(op)}
}

func (m *model) access(addr uint64, n int) int {
	if n < 0 || n > impl.MaxAccess {
		return wrong
	}
	for i := range n {
		a := addr + uint64(i)
		if a < addr || a >= uint64(len(m.bytes)) || !m.committed[a/page] || m.locked[a/page] {
			return fault
		}
	}
	return okay
}

func (m *model) setPages(op impl.SpaceOp) int {
	if op.Kind < 0 || op.Kind > impl.SpaceUnlock || op.Count < 1 || op.Page < 0 || op.Page+op.Count > len(m.committed) {
		return wrong
	}
	end := op.Page + op.Count
	for k := op.Page; k < end; k++ {
		if m.committed[k] == (op.Kind == impl.SpaceCommit) {
			return wrong
		}
	}
	if op.Kind == impl.SpaceCommit && m.count()+op.Count > m.budget {
		return full
	}
	for k := op.Page; k < end; k++ {
		switch op.Kind {
		case impl.SpaceCommit, impl.SpaceDecommit:
			m.committed[k], m.locked[k] = op.Kind == impl.SpaceCommit, false
			clear(m.bytes[k*page : (k+1)*page])
		default:
			m.locked[k] = op.Kind == impl.SpaceLock
		}
	}
	return okay
}

func (m *model) count() int {
	n := 0
	for _, c := range m.committed {
		if c {
			n++
		}
	}
	return n
}

func (m *model) open() []int {
	var open []int
	for k, c := range m.committed {
		if c && !m.locked[k] {
			open = append(open, k)
		}
	}
	return open
}

// someOps are operations that mostly lie near the pages' ends and near what may not be.
func someOps(r *numbers, pages int, n int) []impl.SpaceOp {
	var ops []impl.SpaceOp
	for range n {
		addr := uint64(r.below(pages+1)*page + one(r, -3, -2, -1, 0, 1, 500))
		length := one(r, 0, 1, 2, 3, 5, 600, page, page+1, 2*page+1, impl.MaxAccess, impl.MaxAccess+1)
		switch kind := one(r, 0, 0, 0, 1, 2, 3, 3, 4, 4, 4, 5, 5, 5, 5, 6); kind {
		case impl.SpaceStore:
			data := make([]byte, length)
			for i := range data {
				data[i] = byte(r.below(256))
			}
			ops = append(ops, store(addr, data...))
		default:
			ops = append(ops, impl.SpaceOp{Kind: kind, Page: r.below(pages+2) - 1, Count: one(r, 1, 1, 1, 2, 2, 3, 0), Addr: addr, Len: length})
		}
	}
	return ops
}

func TestSpaceAgainstTheModel(t *testing.T) {
	r := &numbers{1}
	for range 300 {
		pages := 1 + r.below(8)
		budget := r.below(pages + 2)
		ops := someOps(r, pages, 120)
		m := newModel(pages, budget)
		got := impl.RunSpace(pages, budget, ops)
		if !got.OK || len(got.Answers) != len(ops) {
			t.Fatal("the run is valid", got.OK, len(got.Answers))
		}
		for i, op := range ops {
			want := m.run(op)
			if a := got.Answers[i]; a.Code != want.Code || !bytes.Equal(a.Data, want.Data) {
				t.Fatalf("operation %d (kind %d): code %d, not %d", i, op.Kind, a.Code, want.Code)
			}
		}
		if got.Committed != m.count() || !slices.Equal(got.Open, m.open()) {
			t.Fatal("at the end", got.Committed, got.Open, m.count(), m.open())
		}
	}
}

func TestSpaceRefusedOperationsChangeNothing(t *testing.T) {
	r := &numbers{2}
	for range 200 {
		pages := 1 + r.below(6)
		budget := r.below(pages + 1)
		ops := someOps(r, pages, 100)
		for k := range pages { // to see every byte at the end
			ops = append(ops, unlock(k, 1), load(uint64(k*page), page))
		}
		whole := impl.RunSpace(pages, budget, ops)
		var kept []impl.SpaceOp
		var answers []impl.SpaceAnswer
		for i, a := range whole.Answers {
			if a.Code == okay {
				kept = append(kept, ops[i])
				answers = append(answers, a)
			} else if len(a.Data) != 0 {
				t.Fatal("data beside a refusal", a)
			}
		}
		less := impl.RunSpace(pages, budget, kept)
		if !slices.EqualFunc(less.Answers, answers, sameAnswer) || less.Committed != whole.Committed || !slices.Equal(less.Open, whole.Open) {
			t.Fatal("the run without the refused operations differs")
		}
	}
}

func sameAnswer(a, b impl.SpaceAnswer) bool {
	return a.Code == b.Code && bytes.Equal(a.Data, b.Data)
}

func TestSpaceNeverOverBudget(t *testing.T) {
	r := &numbers{3}
	for range 60 {
		pages := 1 + r.below(8)
		budget := r.below(pages + 1)
		ops := someOps(r, pages, 60)
		for n := range len(ops) + 1 {
			if got := impl.RunSpace(pages, budget, ops[:n]); got.Committed > budget || len(got.Open) > got.Committed {
				t.Fatal(n, got.Committed, got.Open, budget)
			}
		}
	}
}
