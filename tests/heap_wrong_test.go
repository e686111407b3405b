package tests

import (
	"fmt"
	"math"
	"slices"
	"testing"

	"loop.example/s01868/impl"
)

// expectNoHeap asks for the fixed answer.
func expectNoHeap(t *testing.T, name string, c impl.HeapConfig, ops []impl.Op) {
	t.Helper()
	if r := impl.RunHeap(c, ops); !sameReport(r, impl.HeapReport{}) {
		t.Errorf("%s: %v", name, r)
	}
}

func TestHeapConfigsAtTheirBounds(t *testing.T) {
	pages := impl.ArenaPages()
	bounds := []struct {
		name        string
		least, most int
		set         func(c *impl.HeapConfig, x int)
	}{
		{"Mix", 0, impl.MaxMix, func(c *impl.HeapConfig, x int) { c.Mix = x }},
		{"Fifo", 1, impl.MaxFifo, func(c *impl.HeapConfig, x int) { c.Fifo = x }},
		{"Large", 1, impl.MaxLarge, func(c *impl.HeapConfig, x int) { c.Large = x }},
		{"Budget", 0, pages, func(c *impl.HeapConfig, x int) { c.Budget = x }},
	}
	ops := []impl.Op{malloc(8), free(1, 0)}
	for _, b := range bounds {
		for _, x := range []int{b.least, b.least + 1, b.most - 1, b.most} {
			c := shape(2, 3, 4, 50)
			b.set(&c, x)
			if r := impl.RunHeap(c, ops); !r.OK || len(r.Answers) != 2 || len(r.Meta.Waits) != 12 {
				t.Errorf("%s %d: %v", b.name, x, r)
			}
		}
		for _, x := range []int{math.MinInt, b.least - 2, b.least - 1, b.most + 1, b.most + 2, 1 << 32, math.MaxInt} {
			c := shape(2, 3, 4, 50)
			b.set(&c, x)
			expectNoHeap(t, fmt.Sprint(b.name, " ", x), c, ops)
			expectNoHeap(t, fmt.Sprint(b.name, " ", x), c, nil)
		}
	}
}

func TestHeapMostDrawsAndOps(t *testing.T) {
	ops := slices.Repeat([]impl.Op{malloc(8)}, impl.MaxOps)
	c := shape(2, 3, 4, impl.ArenaPages(), someDraws(&numbers{3}, impl.MaxDraws)...)
	r := impl.RunHeap(c, ops)
	if !r.OK || len(r.Answers) != impl.MaxOps || r.Meta.Used != impl.MaxOps || len(r.Meta.Slots) != impl.MaxOps {
		t.Errorf("%v, %d answers, %d draws", r.OK, len(r.Answers), r.Meta.Used)
	}
	expectNoHeap(t, "MaxOps + 1", c, append(slices.Clone(ops), malloc(8)))
	expectNoHeap(t, "MaxOps + 1, none of a kind", c, make([]impl.Op, impl.MaxOps+1))
	c.Draws = append(c.Draws, 0)
	expectNoHeap(t, "MaxDraws + 1", c, ops)
	expectNoHeap(t, "MaxDraws + 1", c, nil)
}

func TestHeapKindsThatAreNone(t *testing.T) {
	c := newClient(t, shape(2, 3, 4, 50))
	c.must(malloc(8), okay)
	books, held := c.meta(), c.dump()
	for _, kind := range []int{math.MinInt, -2, -1, 7, 8, 1 << 32, math.MaxInt} {
		a := c.do(impl.Op{Kind: kind, Ref: 1, A: 8, B: 1, Data: []byte{1, 2}})
		if !sameHeapAnswer(a, code(wrong)) {
			t.Errorf("kind %d: %v", kind, a)
		}
	}
	if !sameMeta(books, c.meta()) || string(held) != string(c.dump()) {
		t.Errorf("%v, not %v", c.meta(), books)
	}
}

func TestHeapRefsThatAreNone(t *testing.T) {
	for kind := range 7 {
		for _, ref := range []int{math.MinInt, -2, -1, 3, 4, 300, math.MaxInt} {
			op := impl.Op{Kind: kind, Ref: ref, P: slotAddr(0, 0, 0), A: 1, B: 1, Data: []byte{1}}
			refused(t, shape(1, 1, 1, 9), []impl.Op{malloc(8), malloc(2000)}, op, wrong, 0)
		}
	}
}

// busy is a run that leaves something in each list of its report.
func busy() (impl.HeapConfig, []impl.Op) {
	ops := []impl.Op{
		malloc(8), malloc(8), malloc(24), malloc(2000), malloc(1020), malloc(1020), malloc(1020),
		storeAt(1, 0, 1, 2, 3), loadAt(1, 0, 8), loadAt(1, 0, 8), loadAt(1, 1, 2),
		free(2, 0), free(4, 0), free(5, 0), free(6, 0), realloc(3, 0, 40), free(3, 0),
		malloc(24), malloc(24), free(18, 0), free(19, 0), usable(1, 0), storeAt(7, 9, 9, 9), loadAt(7, 8, 4),
	}
	return shape(2, 3, 1, 60, 1, 2, 3, 4, 5, 6, 7, 8, 9, 10, 11, 12, 13), ops
}

func copiedOps(ops []impl.Op) []impl.Op {
	ops = slices.Clone(ops)
	for i := range ops {
		ops[i].Data = slices.Clone(ops[i].Data)
	}
	return ops
}

func copiedReport(r impl.HeapReport) impl.HeapReport {
	r.Answers = slices.Clone(r.Answers)
	for i := range r.Answers {
		r.Answers[i].Data = slices.Clone(r.Answers[i].Data)
	}
	m := &r.Meta
	m.Open, m.Slots, m.Ranges = slices.Clone(m.Open), slices.Clone(m.Slots), slices.Clone(m.Ranges)
	m.LargeWait, m.Released, m.Waits = slices.Clone(m.LargeWait), slices.Clone(m.Released), slices.Clone(m.Waits)
	for i, w := range m.Waits {
		m.Waits[i] = copied(w)
	}
	return r
}

func TestHeapChangesNoArgument(t *testing.T) {
	c, ops := busy()
	// Room behind the lists, which no call may write to.
	c.Draws = append(c.Draws, 77)[:len(c.Draws)]
	ops = append(ops, malloc(5))[:len(ops)]
	ops[7].Data = append(ops[7].Data, 8)[:3]
	draws, before := slices.Clone(c.Draws), copiedOps(ops)
	r := impl.RunHeap(c, ops)
	if !slices.Equal(c.Draws, draws) || !slices.EqualFunc(ops, before, sameOp) {
		t.Errorf("an argument was changed")
	}
	if c.Draws[:len(draws)+1][len(draws)] != 77 || ops[:len(before)+1][len(before)].A != 5 || ops[7].Data[:4][3] != 8 {
		t.Errorf("the room behind an argument was changed")
	}
	// And what becomes of the arguments later does not show in the report.
	kept := copiedReport(r)
	scribble(c.Draws)
	for i := range ops {
		for j := range ops[i].Data {
			ops[i].Data[j] = 0xee
		}
		ops[i] = impl.Op{Kind: -5}
	}
	if !sameReport(r, kept) {
		t.Errorf("the report shares memory with an argument")
	}
}

// list is one of the lists of an answer.
type list struct {
	name  string
	read  func() string
	spoil func()
}

// listed writes over all of a list, its spare room too.
func listed[T any](name string, of []T, with T) list {
	return list{name, func() string { return fmt.Sprint(of) }, func() {
		for i := range of[:cap(of)] {
			of[:cap(of)][i] = with
		}
	}}
}

// lists are all of the lists of a report that have elements; of a list of lists, only
// those inside it.
func lists(r impl.HeapReport) []list {
	m := r.Meta
	all := []list{
		listed("Open", m.Open, -5),
		listed("Slots", m.Slots, impl.SlotInfo{Class: -5}),
		listed("Ranges", m.Ranges, impl.RangeInfo{First: -5}),
		listed("LargeWait", m.LargeWait, 5),
		listed("Released", m.Released, 5),
	}
	for i, w := range m.Waits {
		all = append(all, listed(fmt.Sprint("Mix ", i), w.Mix, -5), listed(fmt.Sprint("Fifo ", i), w.Fifo, -5))
	}
	for i, a := range r.Answers {
		all = append(all, listed(fmt.Sprint("Data ", i), a.Data, 0xee))
	}
	return all
}

// expectOwnMemory spoils each list of an answer, and asks for the others to stay. answer
// gives the lists of the same answer anew.
func expectOwnMemory(t *testing.T, answer func() []list) {
	t.Helper()
	for i := range answer() {
		all := answer()
		var before []string
		for _, x := range all {
			before = append(before, x.read())
		}
		all[i].spoil()
		for j, x := range all {
			if j != i && x.read() != before[j] {
				t.Errorf("%s and %s share memory", all[i].name, x.name)
			}
		}
	}
}

func TestHeapListsShareNoMemory(t *testing.T) {
	c, ops := busy()
	m := impl.RunHeap(c, ops).Meta
	if len(m.Open) == 0 || len(m.Slots) == 0 || len(m.Ranges) == 0 || len(m.LargeWait) == 0 || len(m.Released) == 0 || len(m.Waits[1].Fifo) == 0 {
		t.Fatalf("a list is empty: %v", m)
	}
	expectOwnMemory(t, func() []list { return lists(impl.RunHeap(c, ops)) })
}

func TestHeapKeptReportsStay(t *testing.T) {
	c, ops := busy()
	r := impl.RunHeap(c, ops)
	kept := copiedReport(r)
	other := shape(0, 1, 2, 30)
	other.Key = 5
	impl.RunHeap(other, slices.Concat(ops, ops))
	again := impl.RunHeap(c, ops)
	if !sameReport(r, kept) || !sameReport(again, kept) {
		t.Errorf("a kept report is another behind a later call")
	}
	for _, x := range lists(again) {
		x.spoil()
	}
	if !sameReport(r, kept) || !sameReport(impl.RunHeap(c, ops), kept) {
		t.Errorf("two reports share memory")
	}
}

func TestHeapRunsAtOnce(t *testing.T) {
	c, ops := busy()
	want := impl.RunHeap(c, ops)
	got := make(chan impl.HeapReport)
	for range 8 {
		go func() { got <- impl.RunHeap(c, ops) }()
	}
	for range 8 {
		if r := <-got; !sameReport(r, want) {
			t.Errorf("%v", r)
		}
	}
}
