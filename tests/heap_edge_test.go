package tests

import (
	"bytes"
	"math"
	"slices"
	"testing"

	"loop.example/s01868/impl"
)

func TestCanaryBytes(t *testing.T) {
	r := &numbers{31}
	for range 3000 {
		key, addr := uint64(r.below(1<<31))<<r.below(34), one(r, 0, 1024, uint64(r.below(1<<31)))
		got := impl.CanaryOf(key, addr)
		if !bytes.Equal(got, plainCanary(key, addr)) {
			t.Fatalf("CanaryOf(%d, %d) = %v, not %v", key, addr, got, plainCanary(key, addr))
		}
		if len(got) != 8 || got[0] != 0 || bytes.IndexByte(got[1:], 0) >= 0 {
			t.Fatalf("CanaryOf(%d, %d) = %v", key, addr, got)
		}
	}
	for _, x := range []uint64{0, 1, 1024, math.MaxUint64} {
		if got := impl.CanaryOf(x, x); !bytes.Equal(got, []byte{0, 1, 1, 1, 1, 1, 1, 1}) {
			t.Errorf("CanaryOf(%d, %d) = %v", x, x, got)
		}
	}
	// 0x9e3779b97f4a7c15, and its negative.
	if got := impl.CanaryOf(1025, 1024); !bytes.Equal(got, []byte{0, 0x7c, 0x4a, 0x7f, 0xb9, 0x79, 0x37, 0x9e}) {
		t.Errorf("%x", got)
	}
	if got := impl.CanaryOf(math.MaxUint64, 0); !bytes.Equal(got, []byte{0, 0x83, 0xb5, 0x80, 0x46, 0x86, 0xc8, 0x61}) {
		t.Errorf("%x", got)
	}
}

func TestCanaryIsNewMemory(t *testing.T) {
	kept := impl.CanaryOf(7, 9)
	copy(impl.CanaryOf(7, 9), bytes.Repeat([]byte{3}, 8))
	if !bytes.Equal(kept, plainCanary(7, 9)) || !bytes.Equal(impl.CanaryOf(7, 9), kept) {
		t.Errorf("%v", kept)
	}
}

func TestHeapSlotHasItsCanary(t *testing.T) {
	for class, size := range sizes {
		c := newClient(t, shape(0, 1, 1, 10, 2))
		c.config.Key = uint64(class) * 0x1234567
		addr := c.must(malloc(uint64(impl.Usable(class))), okay).Addr
		want := append(zeros(size-8), plainCanary(c.config.Key, addr)...)
		if got, _ := c.look(addr, size); addr != slotAddr(class, 0, 2) || !bytes.Equal(got, want) {
			t.Errorf("class %d: the slot at %d holds %v", class, addr, got)
		}
	}
}

// emptied are the steps by which slab 0 of class 11 is left by all that was in it while
// the last one freed waits in slab 1. spoilt says whether its first slot is stored into
// while it waits, and asked for again.
func emptied(spoilt bool) []told {
	row := []told{
		{malloc(1000), at(slotAddr(11, 0, 0))},
		{malloc(1000), at(slotAddr(11, 0, 1))},
		{malloc(1000), at(slotAddr(11, 0, 2))},
		{malloc(1000), at(slotAddr(11, 0, 3))},
		{malloc(1000), at(slotAddr(11, 1, 0))},
		{free(1, 0), code(okay)},
	}
	if spoilt {
		row = append(row,
			told{storeAt(1, 1023, 1), code(okay)},
			told{free(2, 0), code(okay)}, // slot 0 leaves
			told{malloc(1000), at(slotAddr(11, 1, 1))},
			told{free(3, 0), code(okay)},
			told{free(4, 0), code(okay)},
			told{free(5, 0), code(okay)}) // slot 3 leaves, the last one but slot 0
		return row
	}
	return append(row,
		told{free(2, 0), code(okay)},
		told{free(3, 0), code(okay)},
		told{free(4, 0), code(okay)}, // slot 2 leaves, slot 3 waits
	)
}

func TestHeapSlabWithARetiredSlotStays(t *testing.T) {
	r := expectHeap(t, shape(0, 1, 1, 8), append(emptied(true),
		told{loadAt(1, 1020, 4), data(0, 0, 0, 1)},
		told{free(1, 0), code(double)},
		told{free(2, 0), code(double)},
		// Slot 1, and not slot 0, is the first one to be had.
		told{malloc(1000), at(slotAddr(11, 0, 1))},
	))
	want := []impl.SlotInfo{
		{Class: 11, Slot: 0, State: impl.StateRetired},
		{Class: 11, Slot: 1, State: impl.StateLive, Request: 1000},
		{Class: 11, Slot: 2, State: impl.StateReleased},
		{Class: 11, Slot: 3, State: impl.StateReleased},
		{Class: 11, Slab: 1, Slot: 0, State: impl.StateWaiting},
		{Class: 11, Slab: 1, Slot: 1, State: impl.StateLive, Request: 1000},
	}
	if r.Meta.Committed != 8 || !slices.Equal(r.Meta.Slots, want) {
		t.Errorf("%v", r.Meta)
	}
	// Five for the first objects, two for the sixth, one for the last.
	if r.Meta.Used != 8 {
		t.Errorf("%d draws", r.Meta.Used)
	}
}

func TestHeapSlabWithAWaitingSlotStays(t *testing.T) {
	r := expectHeap(t, shape(0, 1, 1, 8), append(emptied(false), told{loadAt(1, 0, 2), data(0, 0)}))
	if r.Meta.Committed != 8 {
		t.Errorf("%v", r.Meta)
	}
	r = expectHeap(t, shape(0, 1, 1, 8), append(emptied(false),
		told{free(5, 0), code(okay)}, // slot 3 leaves, and with it slab 0's pages
		told{loadAt(1, 0, 1), code(fault)},
		told{storeAt(4, 1023, 1), code(fault)},
		told{free(1, 0), code(double)},
		told{free(4, 0), code(double)},
		told{realloc(3, 0, 9), code(double)},
		told{loadAt(5, 0, 2), data(0, 0)}))
	first := impl.RegionStart(11) + 5
	if r.Meta.Committed != 4 || !slices.Equal(r.Meta.Open, []int{first, first + 1, first + 2, first + 3}) {
		t.Errorf("%v", r.Meta)
	}
	if w := r.Meta.Waits[11]; !sameWaiting(w, waiting(nil, []int{4}, 1)) {
		t.Errorf("%v", w)
	}
}

func TestHeapSlabCommittedAgain(t *testing.T) {
	row := append(emptied(false),
		told{free(5, 0), code(okay)},
		// Slab 1 is committed and has room, so it comes first; slab 0 keeps its states.
		told{malloc(1000), at(slotAddr(11, 1, 1))},
		told{malloc(1000), at(slotAddr(11, 1, 2))},
		told{malloc(1000), at(slotAddr(11, 1, 3))},
		told{malloc(1000), at(slotAddr(11, 0, 2))},
		told{loadAt(14, 0, 3), data(0, 0, 0)},
		told{free(4, 0), code(double)},
		told{free(1, 0), code(double)})
	draws := []int{0, 0, 0, 0, 0, 0, 0, 0, 6}
	r := expectHeap(t, shape(0, 1, 1, 8, draws...), row)
	want := []int{impl.StateReleased, impl.StateReleased, impl.StateLive, impl.StateReleased, impl.StateWaiting, impl.StateLive, impl.StateLive, impl.StateLive}
	for i, s := range r.Meta.Slots {
		if s.State != want[i] || s.Slab != i/4 || s.Slot != i%4 {
			t.Errorf("%v", s)
		}
	}
	if r.Meta.Committed != 8 || len(r.Meta.Slots) != 8 {
		t.Errorf("%v", r.Meta)
	}
}

func TestHeapSlabNotCommittedAgain(t *testing.T) {
	row := append(emptied(false),
		told{free(5, 0), code(okay)},
		told{malloc(8), at(slotAddr(0, 0, 0))}, // the page by which slab 0 is one short
		told{malloc(1000), at(slotAddr(11, 1, 1))},
		told{malloc(1000), at(slotAddr(11, 1, 2))},
		told{malloc(1000), at(slotAddr(11, 1, 3))})
	c := shape(0, 1, 1, 8)
	before := expectHeap(t, c, row).Meta
	after := expectHeap(t, c, append(row,
		told{malloc(1000), code(full)},
		told{malloc(1000), code(full)},
		told{free(1, 0), code(double)},
		told{loadAt(1, 0, 1), code(fault)})).Meta
	if !sameMeta(before, after) || after.Committed != 5 {
		t.Errorf("%v, not %v", after, before)
	}
}

func TestHeapSpoiltSlotIsCleanBehindACommit(t *testing.T) {
	// The slot that was stored into is not asked for before its slab is given up.
	row := slices.Insert(emptied(false), 6, told{storeAt(1, 5, 1, 2, 3), code(okay)})
	row = append(row,
		told{free(5, 0), code(okay)},
		told{loadAt(1, 0, 1), code(fault)},
		told{malloc(1000), at(slotAddr(11, 1, 1))},
		told{malloc(1000), at(slotAddr(11, 1, 2))},
		told{malloc(1000), at(slotAddr(11, 1, 3))},
		told{malloc(1000), at(slotAddr(11, 0, 0))},
		told{loadAt(1, 4, 5), data(0, 0, 0, 0, 0)})
	expectHeap(t, shape(0, 1, 1, 8), row)
}

func TestHeapLeastSlabIsTaken(t *testing.T) {
	var row []told
	for slab := range 6 {
		for slot := range 4 {
			row = append(row, told{malloc(1016), at(slotAddr(11, slab, slot))})
		}
	}
	row = append(row,
		told{malloc(1016), code(full)},
		told{calloc(8, 127), code(full)},
		told{free(14, 0), code(okay)}, // slab 3, slot 1
		told{malloc(1016), code(full)},
		told{free(7, 0), code(okay)}, // slab 1, slot 2: the other leaves
		told{malloc(1016), at(slotAddr(11, 3, 1))},
		told{free(22, 0), code(okay)}, // slab 5, slot 1
		told{free(21, 0), code(okay)}, // slab 5, slot 0
		told{malloc(1016), at(slotAddr(11, 1, 2))},
		told{malloc(1016), at(slotAddr(11, 5, 1))})
	r := expectHeap(t, shape(0, 1, 1, impl.ArenaPages()), row)
	// A refusal for want of a slab takes no draw.
	if r.Meta.Used != 27 || r.Meta.Committed != 24 {
		t.Errorf("%v", r.Meta)
	}
}

func TestHeapDrawsBelowZeroAndBehindTheEnd(t *testing.T) {
	slots := impl.SlabSlots(5) // 8
	draws := []int{-1, -1, math.MinInt, math.MaxInt, -8, 4}
	left := upTo(slots)
	var row []told
	for i := range slots {
		k := 0
		if i < len(draws) {
			k = euclid(draws[i], len(left))
		}
		row = append(row, told{malloc(120), at(slotAddr(5, 0, left[k]))})
		left = slices.Delete(left, k, k+1)
	}
	r := expectHeap(t, shape(0, 1, 1, 9, draws...), row)
	if r.Meta.Used != slots {
		t.Errorf("%d draws", r.Meta.Used)
	}
	if got := r.Answers[0].Addr; got != slotAddr(5, 0, 7) {
		t.Errorf("-1 below 8 gives %d", got)
	}
}

func TestHeapDrawsBelowOne(t *testing.T) {
	// The fourth malloc has one slot to choose from and takes a draw all the same, so the
	// fifth one has the draw behind it.
	r := expectHeap(t, shape(0, 1, 1, 8, 0, 0, 0, 77, 2), []told{
		{malloc(1000), at(slotAddr(11, 0, 0))},
		{malloc(1000), at(slotAddr(11, 0, 1))},
		{malloc(1000), at(slotAddr(11, 0, 2))},
		{malloc(1000), at(slotAddr(11, 0, 3))},
		{malloc(1000), at(slotAddr(11, 1, 2))},
	})
	if r.Meta.Used != 5 {
		t.Errorf("%d draws", r.Meta.Used)
	}
	// A Mix of one place draws at each free; none draws at no free.
	row := []told{
		{malloc(8), at(slotAddr(0, 0, 0))},
		{free(1, 0), code(okay)},
		{malloc(8), at(slotAddr(0, 0, 4))},
	}
	r = expectHeap(t, shape(1, 1, 1, 8, 0, 9, 3), row)
	if r.Meta.Used != 3 || !sameWaiting(r.Meta.Waits[0], waiting([]int{0}, nil, 1)) {
		t.Errorf("%v", r.Meta)
	}
	r = expectHeap(t, shape(0, 1, 1, 8, 0, 3), row)
	if r.Meta.Used != 2 || !sameWaiting(r.Meta.Waits[0], waiting(nil, []int{0}, 1)) {
		t.Errorf("%v", r.Meta)
	}
}

func TestHeapDrawsOfRefusedRanges(t *testing.T) {
	r := expectHeap(t, shape(0, 1, 1, 3, 2, -1, 5, 1, 1, 3), []told{
		{malloc(97 * page), code(full)},             // takes the 2
		{malloc(math.MaxUint64), code(full)},        // the -1
		{malloc(4 * page), code(full)},              // the 5: the budget is one page short
		{calloc(1<<32, 1<<32), code(full)},          // none
		{calloc(1<<33, 1<<30), code(full)},          // a 1
		{realloc(0, 0, 4*page), code(full)},         // a 1
		{calloc(3, page), at(largeAt(1))},           // the 3
		{malloc(1), code(full)},                     // none: there is no slab
		{free(0, 5), code(invalid)},                 // none
		{realloc(7, 0, 2*page+1), at(largeAt(1))},   // none: in place
		{realloc(7, 0, 2*page), code(full)},         // behind the end
		{realloc(7, 0, math.MaxUint64), code(full)}, // behind the end
		{realloc(7, 0, 1016), code(full)},           // none
	})
	if r.Meta.Used != 8 {
		t.Errorf("%d draws", r.Meta.Used)
	}
	want := impl.RangeInfo{Base: largeAt(1), First: impl.LargeStart(), Pages: 5, State: impl.StateLive, Request: 2*page + 1}
	if !slices.Equal(r.Meta.Ranges, []impl.RangeInfo{want}) || r.Meta.Committed != 3 {
		t.Errorf("%v", r.Meta)
	}
}

func TestHeapDrawsOfAReallocGoInOrder(t *testing.T) {
	// First the draw of the new slot, then that of the free.
	r := expectHeap(t, shape(4, 1, 1, 8, 0, 3, 2, 1), []told{
		{malloc(8), at(slotAddr(0, 0, 0))},
		{realloc(1, 0, 24), at(slotAddr(1, 0, 3))},
		{realloc(2, 0, 2000), at(largeAt(2))}, // the 1, and nothing is left for the free
	})
	if r.Meta.Used != 5 {
		t.Errorf("%d draws", r.Meta.Used)
	}
	if w := r.Meta.Waits[0]; !sameWaiting(w, waiting([]int{-1, -1, 0, -1}, nil, 1)) {
		t.Errorf("%v", w)
	}
	if w := r.Meta.Waits[1]; !sameWaiting(w, waiting([]int{3, -1, -1, -1}, nil, 1)) {
		t.Errorf("%v", w)
	}
	// Three guards, with the pages behind them.
	r = expectHeap(t, shape(4, 1, 1, 8, 5), []told{{malloc(2000), at(largeAt(3))}})
	if x := r.Meta.Ranges[0]; x.First != impl.LargeStart() || x.Pages != 6 {
		t.Errorf("%v", x)
	}
}

// TestHeapShortAndLongQuarantines frees one slot of a class after the other, at the first
// place of Mix, and asks behind each free which of them have left.
func TestHeapShortAndLongQuarantines(t *testing.T) {
	for _, mix := range []int{0, impl.MaxMix} {
		for _, fifo := range []int{1, impl.MaxFifo} {
			c := newClient(t, shape(mix, fifo, 1, 4))
			waits := fifo
			if mix > 0 {
				waits++ // the one at the first place of Mix
			}
			for slot := range waits + 3 {
				if a := c.must(malloc(8), okay); a.Addr != slotAddr(0, 0, slot) {
					t.Fatalf("object %d at %d", slot, a.Addr)
				}
			}
			for slot := range waits + 3 {
				c.must(free(slot+1, 0), okay)
				for i := range slot + 1 {
					want := impl.StateWaiting
					if slot-i >= waits {
						want = impl.StateReleased
					}
					if got := stateOf(c.meta(), slotAddr(0, 0, i)); got != want {
						t.Fatalf("mix %d, fifo %d: behind free %d, slot %d is in state %d", mix, fifo, slot, i, got)
					}
				}
			}
			w := c.meta().Waits[0]
			if len(w.Mix) != mix || w.Limit != fifo || len(w.Fifo) != fifo || len(c.meta().Waits) != 12 {
				t.Errorf("mix %d, fifo %d: %v", mix, fifo, w)
			}
			for class := 1; class < 12; class++ {
				if w := c.meta().Waits[class]; !sameWaiting(w, empty(mix, fifo)) {
					t.Errorf("class %d: %v", class, w)
				}
			}
		}
	}
}

func TestHeapQuarantineNumbersGoOnOverSlabs(t *testing.T) {
	var row []told
	for slot := range 9 {
		row = append(row, told{malloc(1000), at(slotAddr(11, slot/4, slot%4))})
	}
	for _, ref := range []int{9, 6, 3} {
		row = append(row, told{free(ref, 0), code(okay)})
	}
	r := expectHeap(t, shape(2, 3, 1, 12, 0, 0, 0, 0, 0, 0, 0, 0, 0, 1, 0, 1), row)
	if w := r.Meta.Waits[11]; !sameWaiting(w, waiting([]int{5, 2}, []int{8}, 3)) {
		t.Errorf("%v", w)
	}
}

func TestHeapShortAndLongRows(t *testing.T) {
	for _, large := range []int{1, 2, impl.MaxLarge} {
		var row []told
		var bases []uint64
		for i := range large + 2 {
			bases = append(bases, largeAt(3*i+1))
			row = append(row, told{malloc(1017), at(bases[i])})
		}
		for i := range large {
			row = append(row, told{free(large+2-i, 0), code(okay)})
		}
		full := expectHeap(t, shape(0, 1, large, 18), row).Meta
		wait := slices.Clone(bases[2:])
		slices.Reverse(wait)
		if !slices.Equal(full.LargeWait, wait) || len(full.Released) != 0 || len(full.Ranges) != large+2 || full.Committed != 2 {
			t.Errorf("large %d: %v", large, full)
		}
		row = append(row, told{free(1, 0), code(okay)}, told{free(2, 0), code(okay)},
			told{free(large+2, 0), code(double)}, told{free(1, 0), code(double)}, told{loadAt(2, 0, 1), code(fault)})
		over := expectHeap(t, shape(0, 1, large, 18), row).Meta
		wait = append(wait, bases[0], bases[1])
		left := slices.Sorted(slices.Values(wait[:2]))
		if !slices.Equal(over.LargeWait, wait[2:]) || !slices.Equal(over.Released, left) || over.Committed != 0 {
			t.Errorf("large %d: %v", large, over)
		}
		if len(over.Ranges) != large || !slices.IsSortedFunc(over.Ranges, func(a, b impl.RangeInfo) int { return a.First - b.First }) {
			t.Errorf("large %d: %v", large, over.Ranges)
		}
		for _, x := range over.Ranges {
			if x.State != impl.StateWaiting || x.Request != 0 || x.Pages != 3 {
				t.Errorf("%v", x)
			}
		}
	}
}

func TestHeapWithoutABudget(t *testing.T) {
	r := expectHeap(t, shape(2, 2, 2, 0), []told{
		{malloc(0), code(full)},
		{calloc(0, 0), code(full)},
		{malloc(2000), code(full)},
		{realloc(0, 0, 1), code(full)},
		{realloc(1, 0, 1), code(full)},
		{free(0, 1024), code(invalid)},
		{loadAt(0, 1024, 0), code(okay)},
		{loadAt(0, 1024, 1), code(fault)},
		{storeAt(0, 1024), code(okay)},
		{storeAt(0, 1024, 1), code(fault)},
	})
	m := r.Meta
	if m.Committed != 0 || len(m.Open)+len(m.Slots)+len(m.Ranges)+len(m.LargeWait)+len(m.Released) != 0 || m.Used != 1 {
		t.Errorf("%v", m)
	}
}

func TestHeapBudgetMetAndOneShort(t *testing.T) {
	for class := range sizes {
		n, pages := uint64(impl.Usable(class)), impl.SlabPages(class)
		expectHeap(t, shape(0, 1, 1, pages), []told{{malloc(n), at(slotAddr(class, 0, 0))}})
		r := expectHeap(t, shape(0, 1, 1, pages-1), []told{{malloc(n), code(full)}, {free(1, 0), code(invalid)}})
		if r.Meta.Used != 0 || r.Meta.Committed != 0 || len(r.Meta.Slots) != 0 {
			t.Errorf("class %d: %v", class, r.Meta)
		}
		// A slab that was refused is committed once there are pages for it.
		r = expectHeap(t, shape(0, 1, 1, pages), []told{
			{malloc(1020), at(largeAt(1))},
			{malloc(n), code(full)},
			{malloc(n), code(full)},
			{free(1, 0), code(okay)},
			{malloc(n), at(slotAddr(class, 0, 0))},
		})
		if r.Meta.Committed != pages || r.Meta.Used != 2 {
			t.Errorf("class %d: %v", class, r.Meta)
		}
	}
	for _, pages := range []int{1, 5, 94} {
		n := uint64(pages * page)
		n -= uint64(pages) // still so many pages, and above MaxSmall
		expectHeap(t, shape(0, 1, 1, pages), []told{{malloc(n), at(largeAt(1))}})
		r := expectHeap(t, shape(0, 1, 1, pages-1), []told{{malloc(n), code(full)}, {free(0, largeAt(1)), code(invalid)}})
		if r.Meta.Used != 1 || r.Meta.Committed != 0 || len(r.Meta.Ranges) != 0 {
			t.Errorf("%d pages: %v", pages, r.Meta)
		}
	}
}

// TestHeapRefusedRangeLeavesNoTrace asks for a range that fits the area and not the
// budget, over a base that is kept as released: nothing but the draw is gone.
func TestHeapRefusedRangeLeavesNoTrace(t *testing.T) {
	c := shape(0, 1, 1, 4, 0, 0, 1, 0)
	row := []told{
		{malloc(3 * page), at(largeAt(1))}, // pages 0 to 4
		{malloc(1 * page), at(largeAt(6))}, // pages 5 to 7
		{free(1, 0), code(okay)},
		{free(2, 0), code(okay)},           // the first range leaves
		{malloc(1 * page), at(largeAt(2))}, // pages 0 to 3
		{free(5, 0), code(okay)},           // the second one leaves
	}
	before := expectHeap(t, c, row).Meta
	row = append(row, told{malloc(5 * page), code(full)}) // would be pages 4 to 10
	after := expectHeap(t, c, row).Meta
	before.Used++
	if !slices.Equal(before.Released, []uint64{largeAt(6)}) || !sameMeta(before, after) {
		t.Errorf("%v, not %v", after, before)
	}
	expectHeap(t, c, append(row,
		told{free(2, 0), code(double)},
		told{malloc(4 * page), at(largeAt(5))},
		told{free(2, 0), code(invalid)}))
}

func TestHeapRequests(t *testing.T) {
	rows := []struct {
		n    uint64
		want impl.Answer
	}{
		{0, at(slotAddr(0, 0, 0))},
		{8, at(slotAddr(0, 0, 0))},
		{9, at(slotAddr(1, 0, 0))},
		{760, at(slotAddr(10, 0, 0))},
		{761, at(slotAddr(11, 0, 0))},
		{impl.MaxSmall, at(slotAddr(11, 0, 0))},
		{impl.MaxSmall + 1, at(largeAt(1))},
		{page, at(largeAt(1))},
		{page + 1, at(largeAt(1))},
		{94 * page, at(largeAt(1))},
		{94*page + 1, code(full)},
		{95 * page, code(full)},
		{impl.LargePages * page, code(full)},
		{impl.LargePages*page + 1, code(full)},
		{97 * page, code(full)},
		{1 << 32, code(full)},
		{1<<63 - 1, code(full)},
		{1 << 63, code(full)},
		{math.MaxUint64 - 1023, code(full)}, // a whole number of pages
		{math.MaxUint64 - 1022, code(full)}, // rounded up by a sum, this would wrap
		{math.MaxUint64 - 7, code(full)},
		{math.MaxUint64, code(full)},
	}
	for _, x := range rows {
		sizeOf := 0
		if x.want.Code == okay {
			sizeOf = int(x.n+page-1) / page * page
		}
		if class := impl.ClassOf(x.n); class >= 0 {
			sizeOf = impl.Usable(class)
		}
		ask := usable(1, 0)
		want := size(sizeOf)
		if x.want.Code != okay {
			want = code(invalid)
		}
		for _, op := range []impl.Op{malloc(x.n), calloc(x.n, 1), calloc(1, x.n), realloc(0, 0, x.n)} {
			r := expectHeap(t, shape(0, 1, 1, impl.ArenaPages()), []told{{op, x.want}, {ask, want}})
			if r.Meta.Used != 1 {
				t.Errorf("%v: %d draws", op, r.Meta.Used)
			}
		}
	}
}

func TestHeapGreatestRanges(t *testing.T) {
	for g := 1; g <= 3; g++ {
		c := shape(0, 1, 1, impl.ArenaPages(), g-1, g-1)
		most := uint64(impl.LargePages - g - 1)
		r := expectHeap(t, c, []told{
			{malloc(most*page + 1), code(full)},
			{malloc(most * page), at(largeAt(g))},
			{storeAt(2, most*page-2, 7, 8), code(okay)},
			{storeAt(2, most*page-1, 7, 8), code(fault)},
			{loadAt(2, most*page-3, 3), data(0, 7, 8)},
			{loadAt(0, largeAt(0), 1), code(fault)},
			{loadAt(0, largeAt(g)-1, 1), code(fault)},
			{loadAt(0, largeAt(95), 1), code(fault)},
			{usable(2, 0), size(int(most) * page)},
			{malloc(1017), code(full)},
		})
		if x := r.Meta.Ranges[0]; x.First != impl.LargeStart() || x.Pages != impl.LargePages {
			t.Errorf("%v", x)
		}
	}
}

func TestHeapProducts(t *testing.T) {
	r := expectHeap(t, shape(0, 1, 1, 50), []told{
		{calloc(1<<32, 1<<32), code(full)}, // 2^64
		{calloc(1<<63, 2), code(full)},     // 2^64
		{calloc(math.MaxUint64, math.MaxUint64), code(full)},
		{calloc(1<<32+1, 1<<32), code(full)}, // would wrap to 2^32
		{calloc(1<<61+1, 8), code(full)},     // would wrap to 8
		{calloc(0, math.MaxUint64), at(slotAddr(0, 0, 0))},
		{calloc(math.MaxUint64, 0), at(slotAddr(0, 0, 1))},
		{calloc(127, 8), at(slotAddr(11, 0, 0))},
		{calloc(1017, 1), at(largeAt(1))},
		{calloc(5, 1024), at(largeAt(4))},
		{usable(10, 0), size(5 * page)},
	})
	if r.Meta.Used != 5 {
		t.Errorf("%d draws", r.Meta.Used)
	}
	for _, op := range []impl.Op{calloc(1<<32, 1<<32-1), calloc(math.MaxUint64, 1), calloc(5, math.MaxUint64/5)} {
		// Below 2^64: as malloc, which draws.
		r := expectHeap(t, shape(0, 1, 1, 50), []told{{op, code(full)}})
		if r.Meta.Used != 1 {
			t.Errorf("%v: %d draws", op, r.Meta.Used)
		}
	}
}

func TestHeapReallocOfNothing(t *testing.T) {
	r := expectHeap(t, shape(1, 1, 1, 20), []told{
		{realloc(0, 0, 8), at(slotAddr(0, 0, 0))},
		{free(1, 0), code(okay)},
		{realloc(2, 0, 8), at(slotAddr(0, 0, 1))}, // a free has no Addr
		{realloc(1, -slotAddr(0, 0, 0), 2000), at(largeAt(1))},
		{realloc(0, 0, math.MaxUint64), code(full)},
		{realloc(5, 0, 0), at(slotAddr(0, 0, 2))},
		{realloc(0, 1, 8), code(invalid)},
		{free(0, 0), code(invalid)},
		{usable(0, 0), code(invalid)},
	})
	if len(r.Meta.Slots) != 3 || len(r.Meta.Ranges) != 1 {
		t.Errorf("%v", r.Meta)
	}
}

func TestHeapReallocInPlace(t *testing.T) {
	r := expectHeap(t, shape(1, 1, 1, 20), []told{
		{malloc(24), at(slotAddr(1, 0, 0))},
		{storeAt(1, 0, 1, 2, 3, 4, 5, 6, 7, 8, 9, 10, 11, 12), code(okay)},
		{realloc(1, 0, 9), at(slotAddr(1, 0, 0))},
		{loadAt(1, 8, 4), data(9, 10, 11, 12)},
		{realloc(3, 0, 24), at(slotAddr(1, 0, 0))},
		{loadAt(1, 8, 4), data(9, 10, 11, 12)},
		{realloc(1, 0, 10), at(slotAddr(1, 0, 0))},
		{malloc(3 * page), at(largeAt(1))},
		{storeAt(8, 3*page-1, 9), code(okay)},
		{realloc(8, 0, 2*page+1), at(largeAt(1))},
		{loadAt(8, 3*page-2, 2), data(0, 9)},
		{usable(8, 0), size(3 * page)},
		{realloc(8, 0, 3*page), at(largeAt(1))},
		{realloc(8, 0, 3*page-1), at(largeAt(1))},
	})
	want := impl.SlotInfo{Class: 1, State: impl.StateLive, Request: 10}
	if !slices.Equal(r.Meta.Slots, []impl.SlotInfo{want}) || r.Meta.Ranges[0].Request != 3*page-1 || r.Meta.Used != 2 {
		t.Errorf("%v", r.Meta)
	}
	// By the last request, not by the first, goes how much is copied.
	r = expectHeap(t, shape(0, 1, 1, 20), []told{
		{malloc(24), at(slotAddr(1, 0, 0))},
		{storeAt(1, 0, 1, 2, 3, 4, 5, 6, 7, 8, 9, 10, 11, 12), code(okay)},
		{realloc(1, 0, 10), at(slotAddr(1, 0, 0))},
		{realloc(1, 0, 40), at(slotAddr(2, 0, 0))},
		{loadAt(4, 0, 14), data(1, 2, 3, 4, 5, 6, 7, 8, 9, 10, 0, 0, 0, 0)},
		{realloc(4, 0, 3), at(slotAddr(0, 0, 0))},
		{loadAt(6, 0, 8), data(1, 2, 3, 0, 0, 0, 0, 0)},
		{free(4, 0), code(double)},
		{free(6, 0), code(okay)},
	})
	if len(r.Meta.Slots) != 3 {
		t.Errorf("%v", r.Meta.Slots)
	}
}

func TestHeapReallocAcross(t *testing.T) {
	r := expectHeap(t, shape(0, 1, 1, 40), []told{
		{malloc(1016), at(slotAddr(11, 0, 0))},
		{storeAt(1, 1013, 5, 6, 7), code(okay)},
		{realloc(1, 0, 1017), at(largeAt(1))},
		{loadAt(3, 1012, 8), data(0, 5, 6, 7, 0, 0, 0, 0)}, // without the slot's canary
		{free(1, 0), code(double)},
		{storeAt(3, 1016, 8, 9), code(okay)},
		{realloc(3, 0, 6*page), at(largeAt(4))},
		{loadAt(7, 1013, 6), data(5, 6, 7, 8, 0, 0)}, // the 9 lies behind the request
		{storeAt(7, 5*page-1, 1, 2), code(okay)},
		{realloc(7, 0, 9*page), at(largeAt(12))},
		{loadAt(10, 5*page-2, 4), data(0, 1, 2, 0)},
		{realloc(10, 0, 5*page), at(largeAt(23))},
		{loadAt(12, 5*page-2, 2), data(0, 1)},
		{realloc(12, 0, 1015), at(slotAddr(11, 0, 1))},
		{loadAt(14, 1012, 4), data(0, 5, 6, 0)},
		{loadAt(12, 0, 1), code(fault)},
		{free(12, 0), code(double)},
		{free(14, 0), code(okay)},
		{free(14, 0), code(double)},
	})
	if r.Meta.Committed != 4 || len(r.Meta.Ranges) != 1 || r.Meta.Used != 6 {
		t.Errorf("%v", r.Meta)
	}
}

// TestHeapReallocOfOnePage asks a range of one page for what would lie in one page too,
// but is small.
func TestHeapReallocOfOnePage(t *testing.T) {
	r := expectHeap(t, shape(0, 1, 3, 40), []told{
		{malloc(1024), at(largeAt(1))},
		{realloc(1, 0, 1017), at(largeAt(1))},
		{realloc(1, 0, 1016), at(slotAddr(11, 0, 0))},
		{realloc(3, 0, 1024), at(largeAt(4))},
		{realloc(4, 0, 1), at(slotAddr(0, 0, 0))},
		{realloc(5, 0, 2048), at(largeAt(7))},
		{realloc(6, 0, 0), at(slotAddr(0, 0, 1))},
		{realloc(7, 0, 8), at(slotAddr(0, 0, 1))},
	})
	if r.Meta.Used != 6 || len(r.Meta.LargeWait) != 3 || r.Meta.Committed != 5 {
		t.Errorf("%v", r.Meta)
	}
}

// TestHeapReallocOfManyPages copies more than one access may hold, to the last byte.
func TestHeapReallocOfManyPages(t *testing.T) {
	r := &numbers{33}
	for _, n := range []int{impl.MaxAccess - 1, impl.MaxAccess, impl.MaxAccess + 1, 2 * impl.MaxAccess, 2*impl.MaxAccess + 1, 40 * page} {
		for _, to := range []int{n + page, n - page, 45 * page} {
			k := &keeper{client: newClient(t, shape(0, 1, 1, impl.ArenaPages())), r: r}
			h := held{k.must(malloc(uint64(n)), okay).Addr, someBytes(r, n)}
			k.put(h, 0, n)
			h.addr = k.must(realloc(1, 0, uint64(to)), okay).Addr
			h.bytes = append(h.bytes, zeros(50*page)...)[:to]
			clear(h.bytes[min(n, to):])
			k.check(h)
		}
	}
}

// refused runs an operation behind others; nothing may change but the number of draws.
func refused(t *testing.T, c impl.HeapConfig, ops []impl.Op, last impl.Op, want, draws int) {
	t.Helper()
	a := newClient(t, c)
	for _, op := range ops {
		a.must(op, okay)
	}
	before, held := a.meta(), a.dump()
	if got := a.do(last); !sameHeapAnswer(got, code(want)) {
		t.Errorf("%v: %v, not code %d", last, got, want)
	}
	before.Used += draws
	if !sameMeta(before, a.meta()) || !bytes.Equal(held, a.dump()) {
		t.Errorf("%v, answered by %d, left %v, not %v", last, want, a.meta(), before)
	}
}

func TestHeapReallocThatIsRefused(t *testing.T) {
	slot := []impl.Op{malloc(8), storeAt(1, 0, 1, 2, 3)}
	refused(t, shape(1, 1, 1, 1), slot, realloc(1, 0, 9), full, 0)
	refused(t, shape(1, 1, 1, 1), slot, realloc(1, 0, 1017), full, 1)
	refused(t, shape(1, 1, 1, 9), slot, realloc(1, 0, 97*page), full, 1)
	refused(t, shape(1, 1, 1, 9), slot, realloc(1, 0, math.MaxUint64), full, 1)
	span := []impl.Op{malloc(2 * page), storeAt(1, 0, 1, 2, 3)}
	refused(t, shape(1, 1, 1, 2), span, realloc(1, 0, 8), full, 0)
	refused(t, shape(1, 1, 1, 4), span, realloc(1, 0, 3*page), full, 1)
	refused(t, shape(1, 1, 1, 200), span, realloc(1, 0, 92*page), full, 1)
	refused(t, shape(1, 1, 1, 200), span, realloc(1, 1, 8), invalid, 0)
	refused(t, shape(1, 1, 1, 200), span, realloc(1, page, 8), invalid, 0)
	spoilt := append(slot, storeAt(1, 15, 0xff^impl.CanaryOf(shape(0, 1, 1, 1).Key, slotAddr(0, 0, 0))[7]))
	refused(t, shape(1, 1, 1, 9), spoilt, realloc(1, 0, 7), corrupt, 0)
	refused(t, shape(1, 1, 1, 9), spoilt, realloc(1, 0, 9), corrupt, 0)
	refused(t, shape(1, 1, 1, 9), spoilt, realloc(1, 0, 2000), corrupt, 0)
	refused(t, shape(1, 1, 1, 9), spoilt, free(1, 0), corrupt, 0)
	gone := []impl.Op{malloc(8), malloc(2000), free(1, 0), free(2, 0)}
	refused(t, shape(1, 1, 1, 9), gone, realloc(1, 0, 8), double, 0)
	refused(t, shape(1, 1, 1, 9), gone, realloc(2, 0, 2000), double, 0)
	refused(t, shape(1, 1, 1, 9), gone, free(1, 0), double, 0)
	refused(t, shape(1, 1, 1, 9), gone, free(2, 0), double, 0)
	refused(t, shape(1, 1, 1, 9), gone, free(2, 8), invalid, 0)
	refused(t, shape(1, 1, 1, 9), gone, usable(2, 0), double, 0)
}

// TestHeapRetiredInARefusedMalloc has the one slab's last slots stored into: the malloc
// retires them all and is refused, and they stay retired.
func TestHeapRetiredInARefusedMalloc(t *testing.T) {
	spoil := bytes.Repeat([]byte{1}, 3*page)
	row := []told{
		{malloc(1000), at(slotAddr(11, 0, 0))},
		{storeAt(1, page, spoil...), code(okay)},
	}
	for _, last := range []impl.Op{malloc(1000), calloc(1000, 1), realloc(0, 0, 1000)} {
		r := expectHeap(t, shape(0, 1, 1, 7), append(row[:2:2], told{last, code(full)}))
		var states []int
		for _, s := range r.Meta.Slots {
			states = append(states, s.State)
		}
		want := []int{impl.StateLive, impl.StateRetired, impl.StateRetired, impl.StateRetired}
		if !slices.Equal(states, want) || r.Meta.Used != 4 || r.Meta.Committed != 4 {
			t.Errorf("%v: %v", last, r.Meta)
		}
	}
	// With pages for it, another slab is committed within the same malloc.
	r := expectHeap(t, shape(0, 1, 1, 8, 0, 2, 1, 0, 3), append(row, told{malloc(1000), at(slotAddr(11, 1, 3))}))
	if r.Meta.Used != 5 || r.Meta.Committed != 8 || len(r.Meta.Slots) != 5 {
		t.Errorf("%v", r.Meta)
	}
	// And within a realloc out of another class, whose object stays.
	r = expectHeap(t, shape(0, 1, 1, 5), append(row,
		told{malloc(8), at(slotAddr(0, 0, 0))},
		told{realloc(3, 0, 1000), code(full)},
		told{usable(3, 0), size(8)},
		told{free(0, slotAddr(11, 0, 2)), code(double)},
		told{free(3, 0), code(okay)}))
	if r.Meta.Used != 5 || r.Meta.Committed != 5 {
		t.Errorf("%v", r.Meta)
	}
}

func TestHeapRefs(t *testing.T) {
	a, b := slotAddr(0, 0, 0), slotAddr(11, 0, 0)
	expectHeap(t, shape(0, 1, 1, 20), []told{
		{usable(1, 0), code(wrong)}, // there is no answer so far
		{malloc(8), at(a)},
		{malloc(1000), at(b)},
		{usable(2, 0), size(8)},
		{usable(3, a-b), size(8)}, // wraps
		{usable(2, b-a), size(1016)},
		{usable(1, a), size(8)}, // the first answer has no Addr
		{usable(7, b), size(1016)},
		{usable(8, 0), code(invalid)},
		{usable(11, 0), code(wrong)}, // one more than the answers so far
		{usable(-1, a), code(wrong)},
		{usable(math.MinInt, a), code(wrong)},
		{usable(math.MaxInt, a), code(wrong)},
		{storeAt(3, a-b+1, 5, 6), code(okay)},
		{loadAt(2, 0, 4), data(0, 5, 6, 0)},
		{loadAt(2, -a, 1), code(fault)},
		{loadAt(3, math.MaxUint64, 2), code(fault)},
		{loadAt(2, math.MaxUint64-a, 2), code(fault)},                  // from 2^64 - 1 over the end
		{impl.Op{Kind: impl.OpMalloc, Ref: 2, P: 7, A: 8}, at(a + 16)}, // what is not asked for is not looked at
		{impl.Op{Kind: impl.OpMalloc, Ref: 20, A: 8}, code(wrong)},
		{impl.Op{Kind: impl.OpCalloc, Ref: -1, A: 8, B: 1}, code(wrong)},
		{realloc(22, 0, 8), code(wrong)},
		{free(-7, 0), code(wrong)},
		{storeAt(25, 0, 1), code(wrong)},
		{loadAt(99, 0, 0), code(wrong)},
		{free(3, 0), code(okay)},
		{free(2, 0), code(okay)},
		{free(19, 0), code(okay)},
	})
}

// TestHeapRangeOverAReleasedBase lays a range over, just behind and just ahead of the
// page of a base that is kept as released.
func TestHeapRangeOverAReleasedBase(t *testing.T) {
	rows := []struct {
		name  string
		first int // guards ahead of the range that goes
		pages uint64
		over  int // guards ahead of the range that comes
		kept  bool
	}{
		{"its first page at the base", 1, 1, 1, false},
		{"a guard ahead of it at the base", 1, 2, 2, false},
		{"the guard behind it at the base", 2, 1, 1, false},
		{"it ends just ahead of the base", 3, 1, 1, true},
	}
	for _, x := range rows {
		next := uint64(x.first) + x.pages + 2 // page of the second range, with one guard
		row := []told{
			{malloc(x.pages * page), at(largeAt(x.first))},
			{malloc(1017), at(largeAt(int(next)))},
			{free(1, 0), code(okay)},
			{free(1, 0), code(double)},
			{free(2, 0), code(okay)},
			{free(1, 0), code(double)},
			{malloc(1017), at(largeAt(x.over))},
		}
		r := expectHeap(t, shape(0, 1, 1, 8, x.first-1, 0, x.over-1), row)
		want := []uint64{}
		if x.kept {
			want = append(want, largeAt(x.first))
		}
		if !slices.Equal(r.Meta.Released, want) {
			t.Errorf("%s: kept are %v", x.name, r.Meta.Released)
		}
		last := code(invalid)
		if x.kept {
			last = code(double)
		} else if x.first == x.over {
			last = code(okay) // it is an object's base again
		}
		expectHeap(t, shape(0, 1, 1, 8, x.first-1, 0, x.over-1), append(row, told{free(1, 0), last}))
	}
}

func TestHeapRangeFromAReleasedBaseOn(t *testing.T) {
	r := expectHeap(t, shape(0, 1, 1, 8, 2), []told{
		{malloc(1017), at(largeAt(3))}, // pages 0 to 4
		{malloc(1017), at(largeAt(6))}, // pages 5 to 7
		{free(1, 0), code(okay)},
		{free(2, 0), code(okay)},       // page 3 is kept
		{malloc(1017), at(largeAt(1))}, // pages 0 to 2
		{free(5, 0), code(okay)},       // page 6 is kept too
		{malloc(1017), at(largeAt(4))}, // pages 3 to 5
		{free(1, 0), code(invalid)},
		{free(2, 0), code(double)},
		{realloc(1, 0, 8), code(invalid)},
		{usable(1, 0), code(invalid)},
		{usable(2, 0), code(double)},
	})
	if !slices.Equal(r.Meta.Released, []uint64{largeAt(6)}) || !slices.Equal(r.Meta.LargeWait, []uint64{largeAt(1)}) {
		t.Errorf("%v", r.Meta)
	}
	want := []impl.RangeInfo{
		{Base: largeAt(1), First: impl.LargeStart(), Pages: 3, State: impl.StateWaiting},
		{Base: largeAt(4), First: impl.LargeStart() + 3, Pages: 3, State: impl.StateLive, Request: 1017},
	}
	if !slices.Equal(r.Meta.Ranges, want) {
		t.Errorf("%v", r.Meta.Ranges)
	}
}

// TestHeapRangesTakeTheFirstGap fills gaps of different lengths.
func TestHeapRangesTakeTheFirstGap(t *testing.T) {
	r := expectHeap(t, shape(0, 1, 1, 60), []told{
		{malloc(1017), at(largeAt(1))},      // pages 0 to 2
		{malloc(2 * page), at(largeAt(4))},  // pages 3 to 6
		{malloc(1017), at(largeAt(8))},      // pages 7 to 9
		{malloc(5 * page), at(largeAt(11))}, // pages 10 to 16
		{malloc(1017), at(largeAt(18))},     // pages 17 to 19
		{free(2, 0), code(okay)},
		{free(4, 0), code(okay)},
		{free(1, 0), code(okay)},            // pages 3 to 6 and 10 to 16 are free
		{malloc(3 * page), at(largeAt(11))}, // five pages: behind the first gap
		{malloc(1017), at(largeAt(4))},      // three: in the first one
		{malloc(1017), at(largeAt(21))},     // of both gaps there is too little left
		{loadAt(10, 0, 2), data(0, 0)},
	})
	if len(r.Meta.Ranges) != 6 || r.Meta.Committed != 1+1+3+1+1 {
		t.Errorf("%v", r.Meta)
	}
}

func TestHeapAccesses(t *testing.T) {
	slab := slotAddr(11, 0, 0)
	most := zeros(impl.MaxAccess)
	most[page-1], most[page], most[impl.MaxAccess-1] = 1, 2, 3
	expectHeap(t, shape(0, 1, 1, 20), []told{
		{malloc(1000), at(slab)},
		{storeAt(1, 0, most...), code(okay)},
		{loadAt(1, 0, impl.MaxAccess), data(most...)},
		{loadAt(1, page-2, 4), data(0, 1, 2, 0)},
		{loadAt(1, 4*page-1, 1), data(3)},
		{loadAt(1, 4*page-1, 2), code(fault)},
		{loadAt(1, 1, impl.MaxAccess), code(fault)},
		{storeAt(1, 1, most...), code(fault)},
		{loadAt(1, 0, impl.MaxAccess+1), code(wrong)},
		{storeAt(1, 0, zeros(impl.MaxAccess+1)...), code(wrong)},
		{loadAt(0, math.MaxUint64, impl.MaxAccess+1), code(wrong)},
		{loadAt(0, 1<<62, 1), code(fault)},
		{loadAt(1, 0, 1<<32), code(wrong)},
		{loadAt(1, 0, 1<<63), code(wrong)},
		{loadAt(1, 0, 1<<63+1), code(wrong)},
		{loadAt(1, 0, math.MaxUint64), code(wrong)},
		{loadAt(1, 0, 0), code(okay)},
		{loadAt(0, math.MaxUint64, 0), code(okay)},
		{storeAt(0, 1<<62), code(okay)},
		{loadAt(1, 0, impl.MaxAccess), data(most...)},
		{malloc(700), at(slotAddr(10, 0, 0))},
		{storeAt(21, 3*page-1, 9), code(okay)}, // the tail of a slab is open too
		{loadAt(21, 3*page-2, 2), data(0, 9)},
		{malloc(3 * page), at(largeAt(1))},
		{storeAt(24, page-1, 5, 6), code(okay)},
		{loadAt(24, page-2, 4), data(0, 5, 6, 0)},
		{loadAt(24, 3*page, 1), code(fault)},
		{loadAt(24, math.MaxUint64, 1), code(fault)},
		{impl.Op{Kind: impl.OpStore, Ref: 24, A: math.MaxUint64, Data: []byte{4}}, code(okay)}, // A is not looked at
		{impl.Op{Kind: impl.OpLoad, Ref: 24, A: 1, Data: zeros(5000)}, data(4)},
	})
}

func TestHeapUsable(t *testing.T) {
	for class := range sizes {
		r := expectHeap(t, shape(0, 1, 1, 20), []told{
			{malloc(uint64(impl.Usable(class))), at(slotAddr(class, 0, 0))},
			{storeAt(1, uint64(impl.Usable(class)), 9, 9), code(okay)}, // no canary is asked for
			{usable(1, 0), size(impl.Usable(class))},
			{usable(1, 1), code(invalid)},
			{usable(1, uint64(sizes[class])), code(invalid)},
			{usable(0, slotAddr(class, 1, 0)), code(invalid)},
		})
		if r.Meta.Used != 1 {
			t.Errorf("%d draws", r.Meta.Used)
		}
	}
}

func TestHeapReportOfNothing(t *testing.T) {
	r := impl.RunHeap(shape(3, 2, 1, 10, 4, 5), nil)
	m := r.Meta
	if !r.OK || len(r.Answers)+m.Committed+len(m.Open)+len(m.Slots)+len(m.Ranges)+len(m.LargeWait)+len(m.Released)+m.Used != 0 {
		t.Errorf("%v", r)
	}
	if len(m.Waits) != 12 {
		t.Fatalf("%v", m.Waits)
	}
	for _, w := range m.Waits {
		if !sameWaiting(w, empty(3, 2)) {
			t.Errorf("%v", w)
		}
	}
}

func TestHeapNumbers(t *testing.T) {
	got := []int{impl.MaxOps, impl.MaxDraws, impl.MaxLarge,
		impl.OpMalloc, impl.OpCalloc, impl.OpRealloc, impl.OpFree, impl.OpUsable, impl.OpLoad, impl.OpStore,
		impl.StateFresh, impl.StateLive, impl.StateWaiting, impl.StateReleased, impl.StateRetired}
	if !slices.Equal(got, []int{300, 20000, 16, 0, 1, 2, 3, 4, 5, 6, 0, 1, 2, 3, 4}) {
		t.Errorf("%v", got)
	}
}
