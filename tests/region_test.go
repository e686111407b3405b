package tests

import (
	"math"
	"testing"

	"loop.example/s01868/impl"
)

const (
	guarded = impl.PlaceGuard
	tailed  = impl.PlaceTail
	slotted = impl.PlaceSlot
	large   = impl.PlaceLarge
)

// arena lays out the places of all addresses, one behind the other, as the document tells
// the regions' order.
func arena() []impl.Place {
	var all []impl.Place
	put := func(n int, p impl.Place) {
		for range n {
			all = append(all, p)
		}
	}
	fill := func(n int, p impl.Place) {
		for p.Offset = range n {
			all = append(all, p)
		}
	}
	put(page, impl.Place{Kind: guarded})
	for class, size := range sizes {
		bytes := page
		for bytes < 4*size {
			bytes += page
		}
		for slab := range 6 {
			for slot := range bytes / size {
				fill(size, impl.Place{Kind: slotted, Class: class, Slab: slab, Slot: slot})
			}
			fill(bytes%size, impl.Place{Kind: tailed, Class: class, Slab: slab})
			put(page, impl.Place{Kind: guarded, Class: class, Slab: slab})
		}
	}
	for k := range 96 {
		fill(page, impl.Place{Kind: large, Page: k})
	}
	return all
}

// eachSlot goes through the slots that there are.
func eachSlot(try func(class, slab, slot int)) {
	for class := range impl.ClassCount {
		for slab := range impl.MaxSlabs {
			for slot := range impl.SlabSlots(class) {
				try(class, slab, slot)
			}
		}
	}
}

func TestDecodeEveryAddress(t *testing.T) {
	all := arena()
	if len(all) != impl.ArenaPages()*page {
		t.Fatalf("%d addresses, not %d", impl.ArenaPages()*page, len(all))
	}
	for addr, want := range all {
		if got := impl.Decode(uint64(addr)); got != want {
			t.Fatalf("Decode(%d) is %+v, not %+v", addr, got, want)
		}
	}
}

func TestDecodeBehindTheArena(t *testing.T) {
	end := uint64(impl.ArenaPages()) * page
	if got := impl.Decode(end - 1); got != (impl.Place{Kind: large, Page: 95, Offset: 1023}) {
		t.Errorf("the last address: %+v", got)
	}
	// Among them such as come back into the arena if their higher bits are lost.
	for _, addr := range []uint64{end, end + 1, end + page, 1<<31 + 1024, 1<<32 + 1024, 1 << 42, top - 1, top, 1 << 63, 1<<63 + 1024, math.MaxUint64 - 1023, math.MaxUint64} {
		if got := impl.Decode(addr); got != (impl.Place{}) {
			t.Errorf("Decode(%d) is %+v", addr, got)
		}
	}
}

func TestDecodeFirstAndLastBytes(t *testing.T) {
	rows := []struct {
		first, last uint64
		want        impl.Place
	}{
		{0, 1023, impl.Place{Kind: guarded}},
		{1 * page, 1*page + 15, impl.Place{Kind: slotted}},
		{2*page - 16, 2*page - 1, impl.Place{Kind: slotted, Slot: 63}},
		{2 * page, 3*page - 1, impl.Place{Kind: guarded}},
		{12 * page, 13*page - 1, impl.Place{Kind: guarded, Slab: 5}},
		{13 * page, 13*page + 31, impl.Place{Kind: slotted, Class: 1}},
		{25*page + 1008, 26*page - 1, impl.Place{Kind: tailed, Class: 2}},
		{35*page + 1008, 36*page - 1, impl.Place{Kind: tailed, Class: 2, Slab: 5}},
		{49*page + 960, 50*page - 1, impl.Place{Kind: tailed, Class: 4}},
		{75*page + 960, 76*page - 1, impl.Place{Kind: tailed, Class: 6, Slab: 1}},
		{97*page + 768, 97*page + 1151, impl.Place{Kind: slotted, Class: 8, Slot: 2}}, // over a page's end
		{97*page + 1920, 99*page - 1, impl.Place{Kind: tailed, Class: 8}},
		{99 * page, 100*page - 1, impl.Place{Kind: guarded, Class: 8}},
		{136*page - 768, 136*page - 1, impl.Place{Kind: slotted, Class: 10, Slot: 3}},
		{136 * page, 137*page - 1, impl.Place{Kind: guarded, Class: 10}},
		{185 * page, 186*page - 1, impl.Place{Kind: slotted, Class: 11, Slab: 5, Slot: 3}},
		{186 * page, 187*page - 1, impl.Place{Kind: guarded, Class: 11, Slab: 5}},
		{187 * page, 188*page - 1, impl.Place{Kind: large}},
		{282 * page, 283*page - 1, impl.Place{Kind: large, Page: 95}},
	}
	for _, x := range rows {
		last := x.want
		if last.Kind != guarded {
			last.Offset = int(x.last - x.first)
		}
		if got := impl.Decode(x.first); got != x.want {
			t.Errorf("Decode(%d) is %+v, not %+v", x.first, got, x.want)
		}
		if got := impl.Decode(x.last); got != last {
			t.Errorf("Decode(%d) is %+v, not %+v", x.last, got, last)
		}
		if got := impl.Decode(x.last + 1); got == last || got.Offset != 0 {
			t.Errorf("Decode(%d) is still %+v", x.last+1, got)
		}
	}
}

// TestPlacesDoNotOverlap asks nothing but what the promise says, so it needs no layout.
func TestPlacesDoNotOverlap(t *testing.T) {
	seen := map[impl.Place]int{}
	for addr := range uint64(impl.ArenaPages() * page) {
		p := impl.Decode(addr)
		if p.Kind < guarded || p.Kind > large {
			t.Fatalf("Decode(%d) is %+v", addr, p)
		}
		seen[p]++
	}
	for p, n := range seen {
		want := 1
		if p.Kind == guarded {
			want = page
			if p == (impl.Place{Kind: guarded}) { // page 0 and the first slab's guard page tell the same
				want = 2 * page
			}
		}
		if n != want {
			t.Errorf("%d addresses, not %d, lie in %+v", n, want, p)
		}
	}
}

func TestEverySlotThereAndBack(t *testing.T) {
	owner := map[uint64]impl.Place{}
	eachSlot(func(class, slab, slot int) {
		want := impl.Place{Kind: slotted, Class: class, Slab: slab, Slot: slot}
		addr, ok := impl.SlotAddr(class, slab, slot)
		if !ok || addr%impl.Align != 0 {
			t.Fatalf("%+v lies at %d, %v", want, addr, ok)
		}
		if got := impl.Decode(addr); got != want {
			t.Errorf("%+v lies at %d, where %+v is", want, addr, got)
		}
		size := impl.SlotSize(class)
		for _, offset := range []int{1, size - 1} {
			want.Offset = offset
			if got := impl.Decode(addr + uint64(offset)); got != want {
				t.Errorf("%d bytes behind %d there is %+v, not %+v", offset, addr, got, want)
			}
		}
		for at := addr; at < addr+uint64(size); at++ {
			if other, taken := owner[at]; taken {
				t.Fatalf("%+v and %+v share %d", want, other, at)
			}
			owner[at] = want
		}
	})
}

func TestSlotAddrOfPlainLayout(t *testing.T) {
	for addr, p := range arena() {
		if p.Kind != slotted || p.Offset != 0 {
			continue
		}
		if got, ok := impl.SlotAddr(p.Class, p.Slab, p.Slot); !ok || got != uint64(addr) {
			t.Errorf("SlotAddr of %+v is %d, %v, not %d", p, got, ok, addr)
		}
	}
}

func TestNoSuchSlot(t *testing.T) {
	none := func(class, slab, slot int) {
		if addr, ok := impl.SlotAddr(class, slab, slot); addr != 0 || ok {
			t.Errorf("SlotAddr(%d, %d, %d) is %d, %v", class, slab, slot, addr, ok)
		}
	}
	// Times a page or a slot, the higher ones wrap to 0 and would hit a slot that there is.
	far := []int{math.MinInt, math.MinInt + 1, -1 << 32, -1, 1 << 32, 1 << 53, 1 << 54, 1 << 58, 1 << 60, 1 << 62, math.MaxInt - 1, math.MaxInt}
	for _, class := range noClasses {
		for _, x := range append(far, 0, 1, 5) {
			none(class, x, 0)
			none(class, 0, x)
			none(class, x, x)
		}
	}
	for class := range impl.ClassCount {
		slots := impl.SlabSlots(class)
		for _, slab := range append(far, impl.MaxSlabs, impl.MaxSlabs+1) {
			for _, slot := range append(far, 0, slots-1, slots) {
				none(class, slab, slot)
			}
		}
		for slab := range impl.MaxSlabs {
			for _, slot := range append(far, slots, slots+1, 2*slots) {
				none(class, slab, slot)
			}
			for _, back := range []int{1, 2, slots} { // a slot of the slab ahead, counted backwards
				none(class, slab, -back)
			}
		}
	}
}

func TestRegionsFollowEachOther(t *testing.T) {
	next := 1
	for class := range impl.ClassCount {
		pages := 6 * (impl.SlabPages(class) + 1)
		if got := impl.RegionPages(class); got != pages {
			t.Errorf("RegionPages(%d) is %d, not %d", class, got, pages)
		}
		if got := impl.RegionStart(class); got != next {
			t.Errorf("RegionStart(%d) is %d, not %d", class, got, next)
		}
		next += pages
	}
	if got := impl.LargeStart(); got != next || next != 187 {
		t.Errorf("LargeStart is %d, not %d", got, next)
	}
	if got := impl.ArenaPages(); got != next+96 || impl.LargePages != 96 {
		t.Errorf("ArenaPages is %d, not %d", got, next+96)
	}
}

func TestRegionsOfNoClasses(t *testing.T) {
	for _, class := range noClasses {
		if pages, start := impl.RegionPages(class), impl.RegionStart(class); pages != 0 || start != -1 {
			t.Errorf("class %d has %d pages from %d on", class, pages, start)
		}
	}
}

func TestPlaceKinds(t *testing.T) {
	kinds := [5]int{impl.PlaceOut, impl.PlaceGuard, impl.PlaceTail, impl.PlaceSlot, impl.PlaceLarge}
	if kinds != [5]int{0, 1, 2, 3, 4} {
		t.Error(kinds)
	}
}
