package tests

import (
	"bytes"
	"math/bits"
	"slices"
	"testing"

	"loop.example/s01868/impl"
)

// cell is a slot of the plain heap.
type cell struct {
	class, slab, slot int
	addr              int
	state, request    int
}

// stretch is a large range of the plain heap; data is its first page behind the guards.
type stretch struct {
	first, data, pages, end int
	state, request          int
}

// plainHeap does what the document says over one flat row of bytes, with codes handed
// from function to function and every list walked from its start.
type plainHeap struct {
	c        impl.HeapConfig
	memory   []byte
	open     []bool
	cells    []*cell
	waits    []impl.Waiting
	table    []*stretch
	row      []*stretch
	released []int
	used     int
	answers  []impl.Answer
}

func newPlainHeap(c impl.HeapConfig) *plainHeap {
	h := &plainHeap{c: c}
	page := 1
	for class, size := range sizes {
		pages := dataPages(class)
		for slab := range 6 {
			for slot := 0; (slot+1)*size <= pages*1024; slot++ {
				h.cells = append(h.cells, &cell{class: class, slab: slab, slot: slot, addr: page*1024 + slot*size})
			}
			page += pages + 1
		}
		h.waits = append(h.waits, empty(c.Mix, c.Fifo))
	}
	h.open = make([]bool, page+96)
	h.memory = make([]byte, (page+96)*1024)
	return h
}

// dataPages is how many pages hold four slots of a class.
func dataPages(class int) int {
	pages := 1
	for pages*1024 < 4*sizes[class] {
		pages++
	}
	return pages
}

func (h *plainHeap) draw(m int) int {
	h.used++
	if h.used > len(h.c.Draws) {
		return 0
	}
	return euclid(h.c.Draws[h.used-1], m)
}

func (h *plainHeap) committed() int {
	n := 0
	for _, open := range h.open {
		if open {
			n++
		}
	}
	return n
}

// turn opens or closes pages; either way what they held is gone.
func (h *plainHeap) turn(first, pages int, open bool) {
	for k := first; k < first+pages; k++ {
		h.open[k] = open
		clear(h.memory[k*1024 : (k+1)*1024])
	}
}

// slab is the cells of a slab in order.
func (h *plainHeap) slab(class, slab int) []*cell {
	var list []*cell
	for _, x := range h.cells {
		if x.class == class && x.slab == slab {
			list = append(list, x)
		}
	}
	return list
}

func (h *plainHeap) slabIsOpen(class, slab int) bool {
	return h.open[h.slab(class, slab)[0].addr/1024]
}

// ready are the cells of a slab that may be given out.
func (h *plainHeap) ready(class, slab int) []*cell {
	var list []*cell
	for _, x := range h.slab(class, slab) {
		if x.state == impl.StateFresh || x.state == impl.StateReleased {
			list = append(list, x)
		}
	}
	return list
}

// chosen is the slab to take a cell from, or -1.
func (h *plainHeap) chosen(class int) int {
	closed := -1
	for slab := range 6 {
		if !h.slabIsOpen(class, slab) {
			if closed < 0 {
				closed = slab
			}
		} else if len(h.ready(class, slab)) > 0 {
			return slab
		}
	}
	if closed < 0 || h.committed()+dataPages(class) > h.c.Budget {
		return -1
	}
	h.turn(h.slab(class, closed)[0].addr/1024, dataPages(class), true)
	return closed
}

func (h *plainHeap) giveCell(request int) (int, int) {
	class := slices.IndexFunc(sizes, func(size int) bool { return size >= request+8 })
	for {
		slab := h.chosen(class)
		if slab < 0 {
			return 0, full
		}
		list := h.ready(class, slab)
		x := list[h.draw(len(list))]
		if !bytes.Equal(h.memory[x.addr:x.addr+sizes[class]], zeros(sizes[class])) {
			x.state = impl.StateRetired
			continue
		}
		x.state, x.request = impl.StateLive, request
		copy(h.memory[x.addr+sizes[class]-8:], plainCanary(h.c.Key, uint64(x.addr)))
		return x.addr, okay
	}
}

// plainCanary shifts the product down byte by byte.
func plainCanary(key, addr uint64) []byte {
	x := (key ^ addr) * 0x9e3779b97f4a7c15
	b := []byte{0}
	for len(b) < 8 {
		x >>= 8
		if x&0xff == 0 {
			b = append(b, 1)
		} else {
			b = append(b, byte(x&0xff))
		}
	}
	return b
}

func (h *plainHeap) giveStretch(request uint64) (int, int) {
	g := 1 + h.draw(3)
	if request > 96*1024 {
		return 0, full
	}
	p := (int(request) + 1023) / 1024
	area := len(h.open) - 96
	for s := area; s+g+p+1 <= len(h.open); s++ {
		x := &stretch{s, s + g, p, s + g + p + 1, impl.StateLive, int(request)}
		if slices.ContainsFunc(h.table, func(y *stretch) bool { return x.first < y.end && y.first < x.end }) {
			continue
		}
		if h.committed()+p > h.c.Budget {
			return 0, full
		}
		h.turn(x.data, p, true)
		h.table = append(h.table, x)
		var kept []int
		for _, base := range h.released {
			if base/1024 < x.first || base/1024 >= x.end {
				kept = append(kept, base)
			}
		}
		h.released = kept
		return x.data * 1024, okay
	}
	return 0, full
}

func (h *plainHeap) give(request uint64) (int, int) {
	if request > 1016 {
		return h.giveStretch(request)
	}
	return h.giveCell(int(request))
}

// find is the live cell or stretch that begins at p, or a code.
func (h *plainHeap) find(p uint64) (*cell, *stretch, int) {
	for _, x := range h.cells {
		if uint64(x.addr) != p || x.state == impl.StateFresh {
			continue
		}
		if x.state == impl.StateLive {
			return x, nil, okay
		}
		return nil, nil, double
	}
	for _, x := range h.table {
		if uint64(x.data)*1024 != p {
			continue
		}
		if x.state == impl.StateLive {
			return nil, x, okay
		}
		return nil, nil, double
	}
	for _, base := range h.released {
		if uint64(base) == p {
			return nil, nil, double
		}
	}
	return nil, nil, invalid
}

func (h *plainHeap) findWhole(p uint64) (*cell, *stretch, int) {
	x, y, code := h.find(p)
	if x != nil {
		end := x.addr + sizes[x.class]
		if !bytes.Equal(h.memory[end-8:end], plainCanary(h.c.Key, p)) {
			return nil, nil, corrupt
		}
	}
	return x, y, code
}

func (h *plainHeap) freeCell(x *cell) {
	clear(h.memory[x.addr : x.addr+sizes[x.class]])
	x.state, x.request = impl.StateWaiting, 0
	draw := 0
	if h.c.Mix > 0 {
		draw = h.draw(h.c.Mix)
	}
	slots := len(h.slab(x.class, 0))
	w, left := plainPush(h.waits[x.class], x.slab*slots+x.slot, draw)
	h.waits[x.class] = w
	if left < 0 {
		return
	}
	home := h.slab(x.class, left/slots)
	home[left%slots].state = impl.StateReleased
	for _, y := range home {
		if y.state == impl.StateLive || y.state == impl.StateWaiting || y.state == impl.StateRetired {
			return
		}
	}
	h.turn(home[0].addr/1024, dataPages(x.class), false)
}

func (h *plainHeap) freeStretch(x *stretch) {
	h.turn(x.data, x.pages, false)
	x.state, x.request = impl.StateWaiting, 0
	h.row = append(h.row, x)
	if len(h.row) > h.c.Large {
		oldest := h.row[0]
		h.row = h.row[1:]
		h.table = slices.DeleteFunc(h.table, func(y *stretch) bool { return y == oldest })
		h.released = append(h.released, oldest.data*1024)
	}
}

func (h *plainHeap) realloc(p, n uint64) (int, int) {
	if p == 0 {
		return h.give(n)
	}
	x, y, code := h.findWhole(p)
	if code != okay {
		return 0, code
	}
	if x != nil && n <= 1016 && int(n)+8 <= sizes[x.class] && (x.class == 0 || int(n)+8 > sizes[x.class-1]) {
		x.request = int(n)
		return int(p), okay
	}
	if y != nil && n > 1016 && n <= uint64(y.pages)*1024 && n > uint64(y.pages-1)*1024 {
		y.request = int(n)
		return int(p), okay
	}
	addr, code := h.give(n)
	if code != okay {
		return 0, code
	}
	if x != nil {
		copy(h.memory[addr:], h.memory[x.addr:x.addr+min(x.request, int(n))])
		h.freeCell(x)
	} else {
		from := y.data * 1024
		copy(h.memory[addr:], h.memory[from:from+min(y.request, int(n))])
		h.freeStretch(y)
	}
	return addr, okay
}

func (h *plainHeap) free(p uint64) int {
	x, y, code := h.findWhole(p)
	if x != nil {
		h.freeCell(x)
	}
	if y != nil {
		h.freeStretch(y)
	}
	return code
}

func (h *plainHeap) usable(p uint64) (int, int) {
	x, y, code := h.find(p)
	if x != nil {
		return sizes[x.class] - 8, okay
	}
	if y != nil {
		return y.pages * 1024, okay
	}
	return 0, code
}

// reach is the bytes of the memory that an access is for.
func (h *plainHeap) reach(p, n uint64) ([]byte, int) {
	if n > 4096 {
		return nil, wrong
	}
	if n == 0 {
		return nil, okay
	}
	if p >= uint64(len(h.memory)) || n > uint64(len(h.memory))-p {
		return nil, fault
	}
	for a := p; a < p+n; a++ {
		if !h.open[a/1024] {
			return nil, fault
		}
	}
	return h.memory[p : p+n], okay
}

func (h *plainHeap) answer(op impl.Op) impl.Answer {
	p := op.P
	if op.Ref != 0 {
		if op.Ref < 1 || op.Ref > len(h.answers) {
			return impl.Answer{Code: wrong}
		}
		p += h.answers[op.Ref-1].Addr
	}
	addr, code, size := 0, wrong, 0
	var data, to []byte
	switch op.Kind {
	case impl.OpMalloc:
		addr, code = h.give(op.A)
	case impl.OpCalloc:
		code = full
		if high, low := bits.Mul64(op.A, op.B); high == 0 {
			addr, code = h.give(low)
		}
	case impl.OpRealloc:
		addr, code = h.realloc(p, op.A)
	case impl.OpFree:
		code = h.free(p)
	case impl.OpUsable:
		size, code = h.usable(p)
	case impl.OpLoad:
		data, code = h.reach(p, op.A)
	case impl.OpStore:
		to, code = h.reach(p, uint64(len(op.Data)))
		copy(to, op.Data)
	}
	return impl.Answer{Code: code, Addr: uint64(addr), Size: size, Data: slices.Clone(data)}
}

func (h *plainHeap) run(op impl.Op) {
	h.answers = append(h.answers, h.answer(op))
}

func (h *plainHeap) report() impl.HeapReport {
	m := impl.Meta{Committed: h.committed(), Waits: h.waits, Used: h.used}
	for k, open := range h.open {
		if open {
			m.Open = append(m.Open, k)
		}
	}
	for _, x := range h.cells {
		if x.state != impl.StateFresh {
			m.Slots = append(m.Slots, impl.SlotInfo{Class: x.class, Slab: x.slab, Slot: x.slot, State: x.state, Request: x.request})
		}
	}
	// A pass over the pages, so that what begins at a lesser one is told first.
	for k := range h.open {
		for _, x := range h.table {
			if x.data == k {
				m.Ranges = append(m.Ranges, impl.RangeInfo{Base: uint64(k) * 1024, First: x.first, Pages: x.end - x.first, State: x.state, Request: x.request})
			}
		}
		if slices.Contains(h.released, k*1024) {
			m.Released = append(m.Released, uint64(k)*1024)
		}
	}
	for _, x := range h.row {
		m.LargeWait = append(m.LargeWait, uint64(x.data)*1024)
	}
	return impl.HeapReport{OK: true, Answers: h.answers, Meta: m}
}

// taste is what a random client likes: few sizes, so that slabs fill up.
type taste struct {
	sizes []uint64
	wild  int // of a hundred stores, how many go anywhere
}

func someTaste(r *numbers) taste {
	w := taste{wild: one(r, 0, 5, 40)}
	for range 1 + r.below(3) {
		w.sizes = append(w.sizes, one(r, 0, 1, 8, 9, 24, 25, 100, 300, 376, 377, 504, 505, 760, 761, 1000, 1016, 1017, 1024, 1025, 3000, 5*1024, 20*1024, uint64(r.below(1100)), uint64(r.below(9000))))
	}
	return w
}

// request is now and then none of the sizes that the client likes.
func (w taste) request(r *numbers) uint64 {
	if r.below(10) > 0 {
		return one(r, w.sizes...)
	}
	return one(r, 0, 8, 9, 1016, 1017, uint64(r.below(2000)), 96*1024, 96*1024+1, 93*1024, 1<<32, ^uint64(0), ^uint64(0)-1023)
}

// bases are the first addresses of all that is not fresh.
func (h *plainHeap) bases(states ...int) []uint64 {
	var list []uint64
	for _, x := range h.cells {
		if slices.Contains(states, x.state) {
			list = append(list, uint64(x.addr))
		}
	}
	for _, x := range h.table {
		if slices.Contains(states, x.state) {
			list = append(list, uint64(x.data)*1024)
		}
	}
	if slices.Contains(states, impl.StateReleased) {
		for _, base := range h.released {
			list = append(list, uint64(base))
		}
	}
	return list
}

// somewhere is mostly a live base, else another one, or an address beside one.
func (h *plainHeap) somewhere(r *numbers) uint64 {
	list := h.bases(impl.StateLive)
	if r.below(6) == 0 {
		list = h.bases(impl.StateWaiting, impl.StateReleased, impl.StateRetired)
	}
	if len(list) == 0 || r.below(30) == 0 {
		return one(r, 0, 1024, 1040, uint64(r.below(len(h.memory)+2000)), ^uint64(0), 1<<62, largeAt(r.below(97)))
	}
	p := one(r, list...)
	if r.below(20) == 0 {
		p += one(r, 1, 8, 16, 1024, ^uint64(0))
	}
	return p
}

func someBytes(r *numbers, n int) []byte {
	b := zeros(n)
	for i := range b {
		b[i] = byte(r.below(256))
	}
	return b
}

// someOp is an operation that a client may give next.
func (h *plainHeap) someOp(r *numbers, w taste) impl.Op {
	op := impl.Op{Kind: one(r, 0, 0, 0, 0, 1, 2, 2, 3, 3, 3, 3, 3, 4, 5, 5, 6, 6, 6), A: w.request(r), B: uint64(r.below(3)), P: h.somewhere(r)}
	switch op.Kind {
	case impl.OpCalloc:
		op.B = one(r, 1, 1, 1, 0, 2, 3, 1<<32, ^uint64(0))
	case impl.OpLoad:
		op.A = one(r, 0, 1, 16, 24, 1024, 4096, 4097, uint64(r.below(300)), ^uint64(0))
	case impl.OpStore:
		op.Data = someBytes(r, one(r, 0, 1, 2, 8, 9, 17, r.below(64), 1024, 4097))
		if r.below(100) >= w.wild {
			op.Data = op.Data[:min(len(op.Data), 8)]
		} else {
			op.P += uint64(r.below(40))
		}
	}
	if r.below(2) == 0 && len(h.answers) > 0 {
		op.Ref = one(r, 1, len(h.answers), 1+r.below(len(h.answers)))
		op.P -= h.answers[op.Ref-1].Addr
	}
	if r.below(100) == 0 {
		op.Ref = one(r, -1, len(h.answers)+1)
	}
	if r.below(100) == 0 {
		op.Kind = one(r, -1, 7)
	}
	return op
}

// someShape is any good configuration, often one at the edge of what is good.
func someShape(r *numbers) impl.HeapConfig {
	c := shape(
		one(r, 0, 1, 2, r.below(17), 16),
		one(r, 1, 2, 3, 1+r.below(32), 32),
		one(r, 1, 2, 1+r.below(16), 16),
		one(r, 0, 1, 4, 5, 8, 20, 60, r.below(284), 283),
		someDraws(r, one(r, 0, 5, 100, 700))...)
	c.Key = one(r, 0, 1, ^uint64(0), uint64(r.below(1<<30)))
	return c
}

func TestHeapAgainstThePlainHeap(t *testing.T) {
	r := &numbers{11}
	for run := range 1500 {
		c, w := someShape(r), someTaste(r)
		h := newPlainHeap(c)
		var ops []impl.Op
		for range one(r, r.below(30), r.below(301), 300) {
			op := h.someOp(r, w)
			ops = append(ops, op)
			h.run(op)
		}
		got, want := impl.RunHeap(c, ops), h.report()
		if sameReport(got, want) {
			continue
		}
		for i := range min(len(got.Answers), len(want.Answers)) {
			if !sameHeapAnswer(got.Answers[i], want.Answers[i]) {
				t.Fatalf("run %d, operation %d %v: %v, not %v", run, i+1, ops[i], got.Answers[i], want.Answers[i])
			}
		}
		t.Fatalf("run %d: %v, not %v", run, got.Meta, want.Meta)
	}
}
