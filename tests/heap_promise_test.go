package tests

import (
	"bytes"
	"cmp"
	"slices"
	"testing"

	"loop.example/s01868/impl"
)

// step is an operation of a walk: the books before it, and what it is about.
type step struct {
	op     impl.Op
	p      uint64
	before impl.Meta
	answer impl.Answer
}

// walks has random clients give operations; see is called behind each one. The plain heap
// says only what is worth doing next, not what is right.
func walks(t *testing.T, seed uint64, count, length int, see func(c *client, s step)) {
	t.Helper()
	r := &numbers{seed}
	for range count {
		walk(t, r, length, func() func(*client, step) { return see })
	}
}

// walk is one of them; start is called once ahead of it.
func walk(t *testing.T, r *numbers, length int, start func() func(c *client, s step)) {
	t.Helper()
	config := someShape(r)
	config.Budget = one(r, 5, 12, 40, 100)
	config.Fifo = one(r, 1, 1, 2, 3, config.Fifo)
	see := start()
	c, h, w := newClient(t, config), newPlainHeap(config), someTaste(r)
	for range length {
		op := h.someOp(r, w)
		h.run(op)
		s := step{op: op, before: c.meta()}
		if op.Ref >= 0 && op.Ref <= len(c.ops) {
			s.p = c.target(op)
		}
		s.answer = c.do(op)
		see(c, s)
	}
}

// span is some bytes that something holds.
type span struct{ from, to uint64 }

// spans are what live and waiting slots and ranges hold, by rising addresses.
func spans(m impl.Meta) []span {
	var list []span
	for _, s := range m.Slots {
		if s.State == impl.StateLive || s.State == impl.StateWaiting {
			addr := slotAddr(s.Class, s.Slab, s.Slot)
			list = append(list, span{addr, addr + uint64(sizes[s.Class])})
		}
	}
	for _, x := range m.Ranges {
		list = append(list, span{uint64(x.First) * page, uint64(x.First+x.Pages) * page})
	}
	slices.SortFunc(list, func(a, b span) int { return cmp.Compare(a.from, b.from) })
	return list
}

// Promise 6.
func TestHeapObjectsNeverOverlap(t *testing.T) {
	given := 0
	walks(t, 21, 40, 120, func(c *client, s step) {
		list := spans(c.meta())
		for i := 1; i < len(list); i++ {
			if list[i].from < list[i-1].to {
				t.Fatalf("behind %v, %v and %v overlap", s.op, list[i-1], list[i])
			}
		}
		for _, x := range c.meta().Ranges {
			own := (x.Request + page - 1) / page
			if x.State == impl.StateLive && (x.Base < uint64(x.First+1)*page || x.Base+uint64(own)*page > uint64(x.First+x.Pages-1)*page) {
				t.Fatalf("behind %v, %v has no guard on both sides", s.op, x)
			}
		}
		if !gives(s.op.Kind) || s.answer.Code != okay {
			return
		}
		given++
		n := s.op.A
		if s.op.Kind == impl.OpCalloc {
			n *= s.op.B
		}
		addr := s.answer.Addr
		if addr%impl.Align != 0 || addr == 0 {
			t.Fatalf("%v gives %d", s.op, addr)
		}
		if state, request := inBooks(c.meta(), addr); state != impl.StateLive || request != int(n) {
			t.Fatalf("%v gives %d, which the books have in state %d with request %d", s.op, addr, state, request)
		}
		if _, ok := c.look(addr, int(n)); !ok {
			t.Fatalf("%v gives %d, yet not all of the %d bytes can be loaded", s.op, addr, n)
		}
	})
	if given < 500 {
		t.Errorf("only %d answers gave memory", given)
	}
}

// held is an object of a client that keeps to its objects, with the bytes it stored.
type held struct {
	addr  uint64
	bytes []byte
}

// keeper is a client that stores only inside its objects, and remembers what.
type keeper struct {
	*client
	r       *numbers
	objects []held
}

func (k *keeper) put(h held, from, to int) {
	for ; from < to; from += impl.MaxAccess {
		part := h.bytes[from:min(to, from+impl.MaxAccess)]
		k.must(storeAt(0, h.addr+uint64(from), part...), okay)
	}
}

// check loads all of an object and holds it against what was stored.
func (k *keeper) check(h held) {
	k.t.Helper()
	got, ok := k.look(h.addr, len(h.bytes))
	if !ok || !bytes.Equal(got, h.bytes) {
		k.t.Fatalf("operation %d %v: the %d bytes at %d are not those stored last", len(k.ops), k.ops[len(k.ops)-1], len(h.bytes), h.addr)
	}
}

func (k *keeper) take() {
	n := one(k.r, 0, 1, 8, 9, 24, k.r.below(1100), 1016, 1017, k.r.below(6000), k.r.below(12000))
	op := one(k.r, malloc(uint64(n)), calloc(uint64(n), 1), calloc(1, uint64(n)))
	a := k.do(op)
	if a.Code != okay {
		return
	}
	h := held{a.Addr, zeros(n)}
	if op.Kind == impl.OpCalloc {
		k.check(h)
	}
	copy(h.bytes, someBytes(k.r, n))
	k.put(h, 0, n)
	k.objects = append(k.objects, h)
}

// resize asks for another size: the first bytes must be kept, the others are stored anew.
func (k *keeper) resize(i int) {
	old := k.objects[i]
	n := one(k.r, 0, len(old.bytes), len(old.bytes)+1, len(old.bytes)/2, k.r.below(1100), 1016, 1017, k.r.below(6000), k.r.below(12000))
	a := k.do(realloc(0, old.addr, uint64(n)))
	if a.Code != okay {
		return
	}
	kept := min(n, len(old.bytes))
	h := held{a.Addr, append(slices.Clone(old.bytes[:kept]), someBytes(k.r, n-kept)...)}
	k.check(held{h.addr, h.bytes[:kept]})
	k.put(h, kept, n)
	k.objects[i] = h
}

func (k *keeper) act() {
	if len(k.objects) == 0 || k.r.below(4) == 0 {
		k.take()
		return
	}
	i := k.r.below(len(k.objects))
	h := k.objects[i]
	switch k.r.below(4) {
	case 0:
		k.resize(i)
	case 1:
		k.must(free(0, h.addr), okay)
		k.objects = slices.Delete(k.objects, i, i+1)
	default:
		from := k.r.below(len(h.bytes) + 1)
		to := min(len(h.bytes), from+one(k.r, 0, 1, 100, impl.MaxAccess))
		copy(h.bytes[from:to], someBytes(k.r, to-from))
		k.put(h, from, to)
	}
}

// Promise 7.
func TestHeapKeepsTheBytesOfObjects(t *testing.T) {
	r := &numbers{22}
	for range 25 {
		config := someShape(r)
		config.Budget = one(r, 20, 60, 150)
		k := &keeper{client: newClient(t, config), r: r}
		for len(k.ops) < 130 {
			k.act()
			if len(k.objects) > 0 {
				k.check(one(r, k.objects...))
			}
		}
		for _, h := range k.objects {
			k.check(h)
		}
	}
}

// before is the client ahead of its last operation.
func (c *client) before() *client {
	b := &client{t: c.t, config: c.config, ops: c.ops[:len(c.ops)-1]}
	b.report = impl.RunHeap(b.config, b.ops)
	return b
}

// Promise 8.
func TestHeapAccessChangesNoBooks(t *testing.T) {
	refused := 0
	walks(t, 23, 30, 100, func(c *client, s step) {
		if s.op.Kind != impl.OpLoad && s.op.Kind != impl.OpStore {
			return
		}
		if !sameMeta(s.before, c.meta()) {
			t.Fatalf("%v at %d, answered by %d, changed the books", s.op.Kind, s.p, s.answer.Code)
		}
		if s.answer.Code != okay {
			refused++
			if !bytes.Equal(c.before().dump(), c.dump()) {
				t.Fatalf("%v at %d, answered by %d, changed a byte", s.op.Kind, s.p, s.answer.Code)
			}
		}
	})
	if refused < 100 {
		t.Errorf("only %d accesses were refused", refused)
	}
}

// Promise 8: the first pages of an access are open, one behind them is not.
func TestHeapAccessOverTheEndOfOpenPages(t *testing.T) {
	c := newClient(t, shape(0, 1, 1, 30))
	slot := c.must(malloc(1000), okay).Addr
	span := c.must(malloc(3*page), okay).Addr
	ends := []uint64{slot + 4*page, span + 3*page}
	for _, end := range ends {
		c.must(storeAt(0, end-3, 1, 2, 3), okay)
		before, books := c.dump(), c.meta()
		for _, n := range []int{4, 5, page + 3, page + 4, impl.MaxAccess} {
			c.must(storeAt(0, end-3, bytes.Repeat([]byte{9}, n)...), fault)
			c.must(loadAt(0, end-3, uint64(n)), fault)
		}
		// And from a closed page into an open one.
		first := end - 4*page
		if end == span+3*page {
			first = span
		}
		c.must(storeAt(0, first-1, 7, 7), fault)
		if !bytes.Equal(before, c.dump()) || !sameMeta(books, c.meta()) {
			t.Errorf("a refused access at %d changed something", end)
		}
	}
}

// Promise 9.
func TestHeapFreesOnlyBases(t *testing.T) {
	counts := map[int]int{}
	r := &numbers{24}
	for range 40 {
		walk(t, r, 120, func() func(*client, step) {
			freed := map[uint64]int{}
			return func(c *client, s step) {
				if s.answer.Code == okay && gives(s.op.Kind) {
					delete(freed, s.answer.Addr)
				}
				if s.op.Kind != impl.OpFree {
					return
				}
				counts[s.answer.Code]++
				isBase := s.answer.Code != wrong && stateOf(s.before, s.p) == impl.StateLive
				if s.answer.Code == okay && (!isBase || freed[s.p] > 0) {
					t.Fatalf("free of %d is answered by CodeOK; a base: %v, freed %d times", s.p, isBase, freed[s.p])
				}
				if s.answer.Code != okay && s.answer.Code != corrupt && isBase {
					t.Fatalf("free of the base %d is answered by %d", s.p, s.answer.Code)
				}
				if s.answer.Code == okay {
					freed[s.p]++
				}
			}
		})
	}
	for _, code := range []int{okay, invalid, double, corrupt} {
		if counts[code] < 20 {
			t.Errorf("only %d frees were answered by %d", counts[code], code)
		}
	}
}

// Promise 9: no address but the objects' own bases may be freed.
func TestHeapFreeOfEveryAddress(t *testing.T) {
	c := newClient(t, shape(1, 1, 1, 100, 1, 2, 3, 4, 5, 6, 7))
	for _, n := range []uint64{8, 8, 40, 300, 1000, 2000, 5000, 2000} {
		c.must(malloc(n), okay)
	}
	bases := []uint64{}
	for ref := range 8 {
		if ref == 1 || ref == 6 {
			c.must(free(ref+1, 0), okay)
		} else {
			bases = append(bases, c.report.Answers[ref].Addr)
		}
	}
	var others []impl.Op
	for addr := uint64(0); addr < uint64(impl.ArenaPages()+2)*page; addr += 8 {
		for _, p := range []uint64{addr, addr + 1, addr + 7} {
			if !slices.Contains(bases, p) {
				others = append(others, free(0, p))
			}
		}
	}
	for frees := range slices.Chunk(others, impl.MaxOps-len(c.ops)) {
		report := impl.RunHeap(c.config, slices.Concat(c.ops, frees))
		for i, a := range report.Answers[len(c.ops):] {
			if a.Code != invalid && a.Code != double {
				t.Fatalf("free of %d is answered by %d", frees[i].P, a.Code)
			}
		}
		if !sameMeta(report.Meta, c.meta()) {
			t.Fatalf("refused frees from %d on changed the books", frees[0].P)
		}
	}
	for _, base := range bases {
		c.must(free(0, base), okay)
		c.must(free(0, base), double)
		c.must(realloc(0, base, 8), double)
		c.must(usable(0, base), double)
	}
}

// waits follows freed slots and ranges until they are given out again.
type waits struct {
	frees  map[int]int        // by class; ranges by -1
	slots  map[uint64]int     // a freed slot: how many frees there were then
	ranges map[[2]int]int     // a freed range's first page and number of pages: likewise
	live   map[uint64][2]int  // the extents of live ranges
	reused func(class, n int) // told how many frees came between
}

func newWaits(reused func(class, n int)) *waits {
	return &waits{map[int]int{}, map[uint64]int{}, map[[2]int]int{}, map[uint64][2]int{}, reused}
}

// kindOf is an address's class, or -1 in the area for large ranges.
func kindOf(addr uint64) int {
	if place := impl.Decode(addr); place.Kind == impl.PlaceSlot {
		return place.Class
	}
	return -1
}

func (w *waits) given(addr uint64, m impl.Meta) {
	if class := kindOf(addr); class >= 0 {
		if at, ok := w.slots[addr]; ok {
			w.reused(class, w.frees[class]-at)
			delete(w.slots, addr)
		}
		return
	}
	for _, x := range m.Ranges {
		if x.Base != addr {
			continue
		}
		w.live[addr] = [2]int{x.First, x.Pages}
		for y, at := range w.ranges {
			if x.First < y[0]+y[1] && y[0] < x.First+x.Pages {
				w.reused(-1, w.frees[-1]-at)
			}
		}
	}
}

func (w *waits) freed(addr uint64) {
	class := kindOf(addr)
	w.frees[class]++
	if class >= 0 {
		w.slots[addr] = w.frees[class]
	} else {
		w.ranges[w.live[addr]] = w.frees[-1]
	}
}

func (w *waits) see(c *client, s step) {
	if s.answer.Code != okay {
		return
	}
	moved := s.op.Kind == impl.OpRealloc && s.p != 0 && s.answer.Addr != s.p
	if s.op.Kind == impl.OpMalloc || s.op.Kind == impl.OpCalloc || moved || s.op.Kind == impl.OpRealloc && s.p == 0 {
		w.given(s.answer.Addr, c.meta())
	}
	if moved || s.op.Kind == impl.OpFree {
		w.freed(s.p)
	}
}

// Promise 10.
func TestHeapFreedMemoryWaits(t *testing.T) {
	r := &numbers{25}
	slots, ranges := 0, 0
	for range 60 {
		walk(t, r, 120, func() func(*client, step) {
			var w *waits
			return func(c *client, s step) {
				if w == nil {
					w = newWaits(func(class, n int) {
						least := c.config.Fifo
						if class < 0 {
							least = c.config.Large
							ranges++
						} else {
							slots++
						}
						if n < least {
							t.Fatalf("given out again behind %d frees, not %d: class %d", n, least, class)
						}
					})
				}
				w.see(c, s)
			}
		})
	}
	if slots < 50 || ranges < 50 {
		t.Errorf("only %d slots and %d ranges were given out again", slots, ranges)
	}
}

// churned frees one object after the other, each in exchange for a new one, by an
// operation that does both or by two; the answers that give memory.
func churned(t *testing.T, c impl.HeapConfig, first, other uint64, byRealloc bool) []uint64 {
	t.Helper()
	ops := []impl.Op{malloc(first)}
	var gave []int
	for range 70 {
		last := len(ops)
		if byRealloc {
			// Out of the class and back into it, so that one free of each pair is in it.
			ops = append(ops, realloc(last, 0, other), realloc(last+1, 0, first))
		} else {
			ops = append(ops, free(last, 0), malloc(first))
		}
		gave = append(gave, len(ops)-1)
	}
	report := impl.RunHeap(c, ops)
	addrs := []uint64{report.Answers[0].Addr}
	for _, i := range gave {
		if report.Answers[i].Code != okay {
			t.Fatalf("operation %d is answered by %d", i+1, report.Answers[i].Code)
		}
		addrs = append(addrs, report.Answers[i].Addr)
	}
	return addrs
}

// Promise 10: every free of a churn drives out the one that waited longest, so that the
// slots come again as soon as they may.
func TestHeapChurnedSlotsWait(t *testing.T) {
	for _, fifo := range []int{1, 2, 5, 17, impl.MaxFifo} {
		for _, mix := range []int{0, 1, 3, impl.MaxMix} {
			for _, byRealloc := range []bool{false, true} {
				c := shape(mix, fifo, 1, impl.ArenaPages(), someDraws(&numbers{uint64(fifo)}, 300)...)
				again := 0
				last := map[uint64]int{}
				for i, addr := range churned(t, c, 20, 70, byRealloc) {
					if at, ok := last[addr]; ok {
						again++
						// Freed at at+1: the frees behind that one, up to the one at i.
						if later := i - (at + 1); later < fifo {
							t.Fatalf("mix %d, fifo %d: given out again behind %d frees", mix, fifo, later)
						}
					}
					last[addr] = i
				}
				if fifo < 17 && mix < 3 && again == 0 {
					t.Errorf("mix %d, fifo %d: none was given out again", mix, fifo)
				}
			}
		}
	}
}

// Promise 10: a range's pages are taken again as soon as they may be, and not before.
func TestHeapChurnedRangesWait(t *testing.T) {
	for large := 1; large <= impl.MaxLarge; large++ {
		// Ranges of one page with one guard ahead take three pages each, one behind the
		// other: range number n at page 3n + 1, until the first one may be laid over.
		addrs := churned(t, shape(0, 1, large, impl.ArenaPages()), 1020, 1025, false)
		for i, addr := range addrs {
			// When number i is taken, the frees so far are i; number 0 has left its row once
			// that is large + 1.
			want := largeAt(3*(i%(large+1)) + 1)
			if addr != want {
				t.Fatalf("large %d: number %d at %d, not %d", large, i, addr, want)
			}
		}
	}
}

// spoil is the last bytes of a slot from its object's end on, with one byte changed.
func spoil(c *client, addr uint64, request, size, at int, by byte) []byte {
	b, ok := c.look(addr, size)
	if !ok {
		c.t.Fatalf("the slot at %d can't be loaded", addr)
	}
	b[at] ^= by
	return b[request : at+1]
}

// Promise 11.
func TestHeapStoreOverAnObjectsEnd(t *testing.T) {
	for class, size := range sizes {
		for at := size - 8; at < size; at++ {
			for _, by := range []byte{1, 0x80, 0xff} {
				request := impl.Usable(class) - (at+int(by))%2
				c := newClient(t, shape(1, 1, 1, 60))
				c.must(malloc(uint64(request)), okay)
				addr := c.must(malloc(uint64(request)), okay).Addr
				was := spoil(c, addr, request, size, at, 0)
				c.must(storeAt(0, addr+uint64(request), spoil(c, addr, request, size, at, by)...), okay)
				books, held := c.meta(), c.dump()
				c.must(free(0, addr), corrupt)
				c.must(free(2, 0), corrupt)
				c.must(realloc(0, addr, uint64(request)), corrupt)
				c.must(realloc(0, addr, uint64(request+200)), corrupt)
				c.must(realloc(0, addr, 3000), corrupt)
				c.must(realloc(0, addr, 200*page), corrupt)
				if c.must(usable(0, addr), okay).Size != size-8 {
					t.Errorf("class %d: the object's size is another", class)
				}
				if !sameMeta(books, c.meta()) || stateOf(books, addr) != impl.StateLive || !bytes.Equal(held, c.dump()) {
					t.Errorf("class %d, byte %d: a refused operation changed something", class, at)
				}
				c.must(free(1, 0), okay)
				c.must(storeAt(0, addr+uint64(request), was...), okay)
				c.must(free(0, addr), okay)
			}
		}
	}
}

// Promise 11: the store begins in another object of the slab.
func TestHeapStoreOverANeighbour(t *testing.T) {
	c := newClient(t, shape(0, 1, 1, 10))
	for slot := range 3 {
		if a := c.must(malloc(20), okay); a.Addr != slotAddr(1, 0, slot) {
			t.Fatalf("object %d at %d", slot, a.Addr)
		}
	}
	c.must(storeAt(1, 0, bytes.Repeat([]byte{0xaa}, 2*32-7)...), okay)
	c.must(free(1, 0), corrupt)
	c.must(free(2, 0), corrupt)
	c.must(realloc(2, 0, 9), corrupt)
	c.must(free(3, 0), okay)
	c.must(storeAt(2, 24, impl.CanaryOf(c.config.Key, slotAddr(1, 0, 1))...), okay)
	c.must(realloc(2, 0, 9), okay)
	c.must(free(2, 0), okay)
	c.must(free(1, 0), corrupt)
}

// Promise 11: the bytes of an object's own canary are no canary elsewhere.
func TestHeapCanaryOfAnotherSlot(t *testing.T) {
	c := newClient(t, shape(0, 1, 1, 10))
	c.must(malloc(8), okay)
	c.must(malloc(8), okay)
	other := impl.CanaryOf(c.config.Key, slotAddr(0, 0, 1))
	c.must(storeAt(1, 8, other...), okay)
	c.must(free(1, 0), corrupt)
	c.must(storeAt(1, 8, impl.CanaryOf(c.config.Key+1, slotAddr(0, 0, 0))...), okay)
	c.must(free(1, 0), corrupt)
	c.must(storeAt(1, 8, impl.CanaryOf(c.config.Key, slotAddr(0, 0, 0))...), okay)
	c.must(free(1, 0), okay)
}

// released is a client of a heap with one slab's pages, with an object that keeps the slab
// committed, and the address of a slot that has waited and left; while it waited, bytes
// were stored at some places in it.
func released(t *testing.T, class int, bytes map[int]byte) (*client, uint64) {
	t.Helper()
	c := newClient(t, shape(0, 1, 1, impl.SlabPages(class)))
	n := uint64(impl.Usable(class))
	addr := c.must(malloc(n), okay).Addr
	c.must(malloc(n), okay)
	c.must(malloc(n), okay)
	c.must(free(1, 0), okay)
	for at, b := range bytes {
		c.must(storeAt(1, uint64(at), b), okay)
	}
	c.must(free(2, 0), okay)
	if got := stateOf(c.meta(), addr); got != impl.StateReleased {
		t.Fatalf("class %d: the slot is in state %d", class, got)
	}
	return c, addr
}

// taken takes slots of a class until there is none; whether that address was among them.
func taken(c *client, class int, addr uint64) bool {
	ops := slices.Concat(c.ops, slices.Repeat([]impl.Op{malloc(uint64(impl.Usable(class)))}, impl.SlabSlots(class)+1))
	report := impl.RunHeap(c.config, ops)
	if report.Answers[len(ops)-1].Code != full {
		c.t.Errorf("class %d: there is no end of slots", class)
	}
	c.ops, c.report = ops, report
	return slices.ContainsFunc(report.Answers[len(ops)-impl.SlabSlots(class)-1:], func(a impl.Answer) bool {
		return a.Code == okay && a.Addr == addr
	})
}

// Promise 12.
func TestHeapSlotStoredIntoWhileItWaited(t *testing.T) {
	for class, size := range sizes {
		for _, at := range []int{0, 1, size / 2, size - 9, size - 8, size - 1} {
			c, addr := released(t, class, map[int]byte{at: 1})
			if taken(c, class, addr) {
				t.Errorf("class %d, byte %d: the slot is given out", class, at)
			}
			if got := stateOf(c.meta(), addr); got != impl.StateRetired {
				t.Errorf("class %d, byte %d: the slot is in state %d", class, at, got)
			}
			c.must(free(0, addr), double)
			c.must(realloc(0, addr, 1), double)
			c.must(usable(0, addr), double)
		}
		c, addr := released(t, class, map[int]byte{0: 0, size - 1: 0})
		if !taken(c, class, addr) {
			t.Errorf("class %d: the slot with nothing but zeros is not given out", class)
		}
	}
}

// Promise 12: a slot that was never given out may be stored into as well.
func TestHeapFreshSlotStoredInto(t *testing.T) {
	c := newClient(t, shape(0, 1, 1, 10))
	c.must(malloc(8), okay)
	c.must(storeAt(0, slotAddr(0, 0, 1)+15, 1), okay)
	c.must(storeAt(0, slotAddr(0, 0, 2), 1), okay)
	c.must(free(0, slotAddr(0, 0, 1)), invalid)
	if a := c.must(malloc(8), okay); a.Addr != slotAddr(0, 0, 3) {
		t.Errorf("the slot given out is at %d", a.Addr)
	}
	if m := c.meta(); m.Used != 4 || stateOf(m, slotAddr(0, 0, 1)) != impl.StateRetired || stateOf(m, slotAddr(0, 0, 2)) != impl.StateRetired {
		t.Errorf("the books are %v", m)
	}
	c.must(free(0, slotAddr(0, 0, 1)), double)
}

// Promises 12 and 13 on random walks.
func TestHeapFreedSlotsReadZero(t *testing.T) {
	freed, dirty := 0, 0
	r := &numbers{27}
	for range 50 {
		walk(t, r, 120, func() func(*client, step) {
			spoilt := map[uint64]int{}
			return func(c *client, s step) {
				if gives(s.op.Kind) && s.answer.Code == okay && spoilt[s.answer.Addr] > 0 {
					t.Fatalf("%v gives %d, into which bytes were stored while it waited", s.op, s.answer.Addr)
				}
				moved := s.op.Kind == impl.OpRealloc && s.answer.Addr != s.p && s.p != 0
				if s.answer.Code == okay && (s.op.Kind == impl.OpFree || moved) && kindOf(s.p) >= 0 {
					freed++
					size := impl.SlotSize(kindOf(s.p))
					b, ok := c.look(s.p, size)
					if !ok || !bytes.Equal(b, zeros(size)) {
						t.Fatalf("the slot at %d, just freed, does not read zero", s.p)
					}
				}
				dirty += noteSpoilt(c, s, spoilt)
			}
		})
	}
	if freed < 200 || dirty < 20 {
		t.Errorf("only %d slots were freed, %d stored into", freed, dirty)
	}
}

// noteSpoilt keeps the waiting slots into which the step stored other than zeros, as long
// as their slabs are committed and nobody stores zeros over it; how many there are.
func noteSpoilt(c *client, s step, spoilt map[uint64]int) int {
	for addr := range spoilt {
		if !slices.Contains(c.meta().Open, int(addr/page)) {
			delete(spoilt, addr)
		}
	}
	if s.op.Kind != impl.OpStore || s.answer.Code != okay {
		return len(spoilt)
	}
	for _, x := range c.meta().Slots {
		addr, size := slotAddr(x.Class, x.Slab, x.Slot), uint64(sizes[x.Class])
		if addr >= s.p+uint64(len(s.op.Data)) || addr+size <= s.p {
			continue
		}
		if b, ok := c.look(addr, int(size)); ok && bytes.Equal(b, zeros(int(size))) {
			delete(spoilt, addr)
		} else if ok && x.State == impl.StateWaiting {
			spoilt[addr]++
		}
	}
	return len(spoilt)
}

// Promise 13.
func TestHeapFreedSlotReadsZero(t *testing.T) {
	for class, size := range sizes {
		for _, last := range []impl.Op{free(1, 0), realloc(1, 0, 4000)} {
			c := newClient(t, shape(0, 1, 1, 20))
			n := impl.Usable(class)
			addr := c.must(malloc(uint64(n)), okay).Addr
			c.must(storeAt(1, 0, bytes.Repeat([]byte{0xff}, n)...), okay)
			c.must(last, okay)
			if b, ok := c.look(addr, size); !ok || !bytes.Equal(b, zeros(size)) {
				t.Errorf("class %d: the slot reads %v, %v", class, b, ok)
			}
		}
	}
}

// Promise 14.
func TestHeapAnswersAndBudget(t *testing.T) {
	met := 0
	walks(t, 28, 40, 120, func(c *client, s step) {
		m := c.meta()
		if m.Committed != len(m.Open) || m.Committed > c.config.Budget {
			t.Fatalf("behind %v, %d pages are committed of a budget of %d; open are %v", s.op, m.Committed, c.config.Budget, m.Open)
		}
		if !slices.IsSorted(m.Open) || len(slices.Compact(slices.Clone(m.Open))) != len(m.Open) {
			t.Fatalf("the open pages are %v", m.Open)
		}
		if m.Committed == c.config.Budget {
			met++
		}
	})
	if met < 100 {
		t.Errorf("the budget was met only %d times", met)
	}
}

// Promise 14: what is open is just what can be loaded.
func TestHeapOpenPagesCanBeLoaded(t *testing.T) {
	r := &numbers{29}
	walk(t, r, 60, func() func(*client, step) {
		return func(c *client, s step) {
			if r.below(10) > 0 {
				return
			}
			for k := range impl.ArenaPages() + 1 {
				_, ok := c.look(uint64(k)*page, page)
				if ok != slices.Contains(c.meta().Open, k) {
					t.Fatalf("behind %v, page %d: loaded %v, open are %v", s.op, k, ok, c.meta().Open)
				}
			}
		}
	})
}
