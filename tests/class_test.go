package tests

import (
	"math"
	"math/big"
	"slices"
	"testing"

	"loop.example/s01868/impl"
)

// sizes are the slot sizes as the document lists them.
var sizes = []int{16, 32, 48, 64, 96, 128, 192, 256, 384, 512, 768, 1024}

// noClasses are numbers that are no class.
var noClasses = []int{math.MinInt, math.MinInt + 1, -impl.ClassCount, -2, -1, impl.ClassCount, impl.ClassCount + 1, math.MaxInt - 1, math.MaxInt}

func TestClassNumbers(t *testing.T) {
	if impl.ClassCount != 12 || impl.Align != 16 || impl.CanaryBytes != 8 || impl.MaxSmall != 1016 || impl.MaxSlabs != 6 {
		t.Error(impl.ClassCount, impl.Align, impl.CanaryBytes, impl.MaxSmall, impl.MaxSlabs)
	}
	for class, size := range sizes {
		if got := impl.SlotSize(class); got != size {
			t.Errorf("SlotSize(%d) is %d, not %d", class, got, size)
		}
		if got := impl.Usable(class); got != size-8 {
			t.Errorf("Usable(%d) is %d, not %d", class, got, size-8)
		}
		if size%impl.Align != 0 {
			t.Errorf("slots of %d bytes are not aligned", size)
		}
	}
}

func TestSlabPagesAreTheLeastForFourSlots(t *testing.T) {
	for class, size := range sizes {
		pages := 1
		for pages*page < 4*size {
			pages++
		}
		if got := impl.SlabPages(class); got != pages {
			t.Errorf("SlabPages(%d) is %d, not %d", class, got, pages)
		}
		slots := impl.SlabSlots(class)
		if slots < 4 || slots*size > pages*page || (slots+1)*size <= pages*page {
			t.Errorf("SlabSlots(%d) is %d, in %d pages", class, slots, pages)
		}
	}
}

func TestNoClasses(t *testing.T) {
	for _, class := range noClasses {
		got := []int{impl.SlotSize(class), impl.SlabPages(class), impl.SlabSlots(class), impl.Usable(class)}
		if !slices.Equal(got, []int{0, 0, 0, 0}) {
			t.Errorf("class %d has %v", class, got)
		}
	}
}

func TestClassOfIsTheLeastThatFits(t *testing.T) {
	for request := range uint64(impl.MaxSmall + 1) {
		need := int(request) + 8
		want := slices.IndexFunc(sizes, func(size int) bool { return size >= need })
		got := impl.ClassOf(request)
		if got != want || got < 0 {
			t.Errorf("ClassOf(%d) is %d, not %d", request, got, want)
		}
		if int(request) > impl.Usable(got) || got > 0 && int(request) <= impl.Usable(got-1) {
			t.Errorf("ClassOf(%d) is %d, whose usable size is %d", request, got, impl.Usable(got))
		}
	}
}

func TestClassOfAtUsableSizes(t *testing.T) {
	for class := range sizes {
		usable := uint64(impl.Usable(class))
		next := class + 1
		if next == len(sizes) {
			next = -1
		}
		if at, above := impl.ClassOf(usable), impl.ClassOf(usable+1); at != class || above != next {
			t.Errorf("at %d: %d and %d, not %d and %d", usable, at, above, class, next)
		}
	}
}

func TestClassOfAboveMaxSmall(t *testing.T) {
	for back := range uint64(40) {
		// The last 8 numbers below 2^64 and a canary come to a small sum that wrapped.
		for _, request := range []uint64{impl.MaxSmall + 1 + back, 1<<32 + back, 1<<63 - 20 + back, math.MaxUint64 - back} {
			if got := impl.ClassOf(request); got != -1 {
				t.Errorf("ClassOf(%d) is %d", request, got)
			}
		}
	}
}

func TestProductAtTheEdge(t *testing.T) {
	const most = math.MaxUint64
	rows := []struct {
		a, b, want uint64
		ok         bool
	}{
		{0, 0, 0, true},
		{0, most, 0, true},
		{1, most, most, true},
		{2, 1<<63 - 1, most - 1, true},
		{2, 1 << 63, 0, false},
		{2, 1<<63 + 5, 0, false}, // it would wrap to 10
		{3, most / 3, most, true},
		{5, most / 5, most, true},
		{641, most / 641, 641 * (most / 641), true},
		{1<<32 - 1, 1<<32 + 1, most, true},
		{1 << 32, 1<<32 - 1, most - 1<<32 + 1, true},
		{1 << 32, 1 << 32, 0, false},
		{1<<32 + 1, 1<<32 + 1, 0, false},
		{274177, 67280421310721, 0, false}, // 2^64 + 1, which would wrap to 1
		{most, most, 0, false},             // it would wrap to 1
		{most, 2, 0, false},
	}
	for _, x := range rows {
		for _, y := range [][2]uint64{{x.a, x.b}, {x.b, x.a}} {
			if got, ok := impl.Product(y[0], y[1]); got != x.want || ok != x.ok {
				t.Errorf("Product(%d, %d) is %d, %v, not %d, %v", y[0], y[1], got, ok, x.want, x.ok)
			}
		}
	}
}

func TestProductAgainstTrueProducts(t *testing.T) {
	r := &numbers{9}
	fit := 0
	for range 4000 {
		a := (uint64(r.below(1<<31))<<33 | uint64(r.below(1<<31))) >> r.below(64)
		b := (uint64(r.below(1<<31))<<33 | uint64(r.below(1<<31))) >> r.below(64)
		if a > 0 && r.below(3) == 0 {
			b = math.MaxUint64/a + uint64(r.below(2)) // the last that fits, or the next
		}
		want := new(big.Int).Mul(new(big.Int).SetUint64(a), new(big.Int).SetUint64(b))
		got, ok := impl.Product(a, b)
		if ok != want.IsUint64() || ok && got != want.Uint64() || !ok && got != 0 {
			t.Errorf("Product(%d, %d) is %d, %v, not %v", a, b, got, ok, want)
		}
		if ok {
			fit++
		}
	}
	if fit < 1000 || fit > 3000 {
		t.Errorf("%d of 4000 products fit: too few of one kind", fit)
	}
}
