package tests

import (
	"bytes"
	"slices"
	"testing"

	"loop.example/s01868/impl"
)

const (
	invalid = impl.CodeInvalid
	double  = impl.CodeDouble
	corrupt = impl.CodeCorrupt
)

// shape is a heap with a key that is not 0.
func shape(mix, fifo, large, budget int, draws ...int) impl.HeapConfig {
	return impl.HeapConfig{Mix: mix, Fifo: fifo, Large: large, Budget: budget, Key: 0x0123456789abcdef, Draws: draws}
}

func malloc(n uint64) impl.Op {
	return impl.Op{Kind: impl.OpMalloc, A: n}
}

func calloc(a, b uint64) impl.Op {
	return impl.Op{Kind: impl.OpCalloc, A: a, B: b}
}

func realloc(ref int, p, n uint64) impl.Op {
	return impl.Op{Kind: impl.OpRealloc, Ref: ref, P: p, A: n}
}

func free(ref int, p uint64) impl.Op {
	return impl.Op{Kind: impl.OpFree, Ref: ref, P: p}
}

func usable(ref int, p uint64) impl.Op {
	return impl.Op{Kind: impl.OpUsable, Ref: ref, P: p}
}

func loadAt(ref int, p, n uint64) impl.Op {
	return impl.Op{Kind: impl.OpLoad, Ref: ref, P: p, A: n}
}

func storeAt(ref int, p uint64, data ...byte) impl.Op {
	return impl.Op{Kind: impl.OpStore, Ref: ref, P: p, Data: data}
}

// gives tells whether a good answer to an operation of that kind gives memory.
func gives(kind int) bool {
	return kind == impl.OpMalloc || kind == impl.OpCalloc || kind == impl.OpRealloc
}

// told is an operation with the answer that the document asks for.
type told struct {
	op   impl.Op
	want impl.Answer
}

func at(addr uint64) impl.Answer { return impl.Answer{Addr: addr} }
func code(n int) impl.Answer     { return impl.Answer{Code: n} }
func size(n int) impl.Answer     { return impl.Answer{Size: n} }
func data(b ...byte) impl.Answer { return impl.Answer{Data: b} }
func zeros(n int) []byte         { return make([]byte, n) }

// slotAddr fails loudly, by an address that is none, where there is no such slot.
func slotAddr(class, slab, slot int) uint64 {
	addr, ok := impl.SlotAddr(class, slab, slot)
	if !ok {
		return ^uint64(0)
	}
	return addr
}

// largeAt is the address of a page of the area for large ranges.
func largeAt(page int) uint64 {
	return uint64(impl.LargeStart()+page) * impl.PageSize
}

// expectHeap runs the operations and holds the answers against those asked for.
func expectHeap(t *testing.T, c impl.HeapConfig, row []told) impl.HeapReport {
	t.Helper()
	var ops []impl.Op
	for _, x := range row {
		ops = append(ops, x.op)
	}
	r := impl.RunHeap(c, ops)
	if !r.OK || len(r.Answers) != len(row) {
		t.Fatalf("OK %v, %d answers to %d operations", r.OK, len(r.Answers), len(row))
	}
	for i, x := range row {
		if !sameHeapAnswer(r.Answers[i], x.want) {
			t.Errorf("operation %d %v: %v, not %v", i+1, x.op, r.Answers[i], x.want)
		}
	}
	return r
}

func sameHeapAnswer(a, b impl.Answer) bool {
	return a.Code == b.Code && a.Addr == b.Addr && a.Size == b.Size && bytes.Equal(a.Data, b.Data)
}

func sameMeta(a, b impl.Meta) bool {
	return a.Committed == b.Committed && slices.Equal(a.Open, b.Open) && slices.Equal(a.Slots, b.Slots) &&
		slices.EqualFunc(a.Waits, b.Waits, sameWaiting) && slices.Equal(a.Ranges, b.Ranges) &&
		slices.Equal(a.LargeWait, b.LargeWait) && slices.Equal(a.Released, b.Released) && a.Used == b.Used
}

func sameReport(a, b impl.HeapReport) bool {
	return a.OK == b.OK && slices.EqualFunc(a.Answers, b.Answers, sameHeapAnswer) && sameMeta(a.Meta, b.Meta)
}

// inBooks is the state and the request of what begins at an address, as the books tell it.
func inBooks(m impl.Meta, addr uint64) (int, int) {
	for _, s := range m.Slots {
		if slotAddr(s.Class, s.Slab, s.Slot) == addr {
			return s.State, s.Request
		}
	}
	for _, x := range m.Ranges {
		if x.Base == addr {
			return x.State, x.Request
		}
	}
	if slices.Contains(m.Released, addr) {
		return impl.StateReleased, 0
	}
	return impl.StateFresh, 0
}

func stateOf(m impl.Meta, addr uint64) int {
	state, _ := inBooks(m, addr)
	return state
}

// client gives one operation after the other. RunHeap keeps nothing from call to call, so
// each one runs all those before it again.
type client struct {
	t      *testing.T
	config impl.HeapConfig
	ops    []impl.Op
	report impl.HeapReport
}

func newClient(t *testing.T, c impl.HeapConfig) *client {
	return &client{t: t, config: c, report: impl.RunHeap(c, nil)}
}

// do runs one more operation, and holds the earlier answers against what they were.
func (c *client) do(op impl.Op) impl.Answer {
	c.t.Helper()
	before := c.report.Answers
	c.ops = append(c.ops, op)
	c.report = impl.RunHeap(c.config, c.ops)
	n := len(c.ops)
	if !c.report.OK || len(c.report.Answers) != n {
		c.t.Fatalf("OK %v, %d answers to %d operations", c.report.OK, len(c.report.Answers), n)
	}
	if !slices.EqualFunc(c.report.Answers[:n-1], before, sameHeapAnswer) {
		c.t.Fatalf("operation %d %v changed the answers before it", n, op)
	}
	return c.report.Answers[n-1]
}

// must runs one more operation that has to be answered by that code.
func (c *client) must(op impl.Op, code int) impl.Answer {
	c.t.Helper()
	a := c.do(op)
	if a.Code != code {
		c.t.Fatalf("operation %d %v: %v, not code %d", len(c.ops), op, a, code)
	}
	return a
}

// meta is what the books are now.
func (c *client) meta() impl.Meta {
	return c.report.Meta
}

// target is the address that an operation is about.
func (c *client) target(op impl.Op) uint64 {
	if op.Ref == 0 {
		return op.P
	}
	return c.report.Answers[op.Ref-1].Addr + op.P
}

// look loads bytes without a trace in the run, by pieces; false where a page is not open.
func (c *client) look(addr uint64, n int) ([]byte, bool) {
	c.t.Helper()
	ops := slices.Clip(c.ops)
	for done := 0; done < n; done += impl.MaxAccess {
		ops = append(ops, loadAt(0, addr+uint64(done), uint64(min(n-done, impl.MaxAccess))))
	}
	r := impl.RunHeap(c.config, ops)
	if !r.OK || len(r.Answers) != len(ops) {
		c.t.Fatalf("OK %v, %d answers to %d operations", r.OK, len(r.Answers), len(ops))
	}
	var all []byte
	for _, a := range r.Answers[len(c.ops):] {
		if a.Code != okay {
			return nil, false
		}
		all = append(all, a.Data...)
	}
	return all, true
}

// dump is every byte of every open page.
func (c *client) dump() []byte {
	c.t.Helper()
	var all []byte
	pages := c.meta().Open
	for len(pages) > 0 {
		n := 1
		for n < len(pages) && pages[n] == pages[0]+n {
			n++
		}
		b, ok := c.look(uint64(pages[0])*impl.PageSize, n*impl.PageSize)
		if !ok {
			c.t.Fatalf("page %d and those behind it are told as open, yet a load is refused", pages[0])
		}
		all = append(all, b...)
		pages = pages[n:]
	}
	return all
}
