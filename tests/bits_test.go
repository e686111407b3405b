package tests

import (
	"math"
	"slices"
	"testing"

	"loop.example/s01868/impl"
)

// flags is a bitmap told in the plainest way.
type flags []bool

func (f flags) words() []uint64 {
	words := make([]uint64, (len(f)+63)/64)
	for i, on := range f {
		if on {
			words[i/64] |= 1 << (i % 64)
		}
	}
	return words
}

func (f flags) free() []int {
	var free []int
	for i, on := range f {
		if !on {
			free = append(free, i)
		}
	}
	return free
}

func (f flags) scan(start int) int {
	for i := range f {
		if at := (start + i) % len(f); !f[at] {
			return at
		}
	}
	return -1
}

// someFlags has, of each eight bits, about so many on.
func someFlags(r *numbers, n int, ofEight int) flags {
	f := make(flags, n)
	for i := range f {
		f[i] = r.below(8) < ofEight
	}
	return f
}

// eachBitmap gives bitmaps of the lengths at which words begin and end: empty ones, full
// ones and some between.
func eachBitmap(try func(f flags)) {
	r := &numbers{4}
	for _, n := range []int{0, 1, 2, 63, 64, 65, 70, 127, 128, 129, 192, impl.MaxBits - 1, impl.MaxBits} {
		for _, ofEight := range []int{0, 1, 4, 7, 8} {
			try(someFlags(r, n, ofEight))
		}
		for _, last := range []int{0, n / 2, n - 1} { // just one free bit
			if last >= 0 && last < n {
				f := someFlags(r, n, 8)
				f[last] = false
				try(f)
			}
		}
	}
}

func TestBitsPutSetsJustOneBit(t *testing.T) {
	eachBitmap(func(f flags) {
		b := f.words()
		for i := range f {
			for _, on := range []bool{false, true} {
				want := slices.Clone(b)
				want[i/64] &^= 1 << (i % 64)
				if on {
					want[i/64] |= 1 << (i % 64)
				}
				got, ok := impl.BitsPut(b, len(f), i, on)
				if !ok || !slices.Equal(got, want) {
					t.Fatalf("length %d: bit %d %v", len(f), i, on)
				}
			}
		}
		if !slices.Equal(b, f.words()) {
			t.Fatal("the argument was changed")
		}
	})
}

func TestBitsPutGivesNewMemory(t *testing.T) {
	for _, on := range []bool{false, true} {
		b := []uint64{5, 5}
		got, ok := impl.BitsPut(b, 128, 0, on)
		if !ok {
			t.Fatal("put")
		}
		clear(got[:cap(got)])
		if b[0] != 5 || b[1] != 5 {
			t.Error("the answer shares memory with the argument", b)
		}
	}
	b := append(make([]uint64, 0, 8), 1)
	got, _ := impl.BitsPut(b, 64, 1, true)
	if !slices.Equal(got, []uint64{3}) || b[:2][1] != 0 {
		t.Error("spare room", got, b[:2])
	}
}

func TestBitsHasAndCount(t *testing.T) {
	eachBitmap(func(f flags) {
		b := f.words()
		for i, on := range f {
			if impl.BitsHas(b, len(f), i) != on {
				t.Fatalf("length %d: has %d", len(f), i)
			}
		}
		if n := impl.BitsCount(b, len(f)); n != len(f)-len(f.free()) {
			t.Fatalf("length %d: count %d", len(f), n)
		}
	})
}

func TestBitsFreeGivesEachFreeBit(t *testing.T) {
	eachBitmap(func(f flags) {
		b, free := f.words(), f.free()
		for k, want := range free {
			if i := impl.BitsFree(b, len(f), k); i != want {
				t.Fatalf("length %d: free %d is %d, not %d", len(f), k, i, want)
			}
		}
		for _, k := range []int{len(free), len(free) + 1, math.MaxInt, -1, math.MinInt} {
			if i := impl.BitsFree(b, len(f), k); i != -1 {
				t.Fatalf("length %d: free %d is %d", len(f), k, i)
			}
		}
	})
}

func TestBitsScanGoesRound(t *testing.T) {
	eachBitmap(func(f flags) {
		b := f.words()
		for start := range f {
			if i := impl.BitsScan(b, len(f), start); i != f.scan(start) {
				t.Fatalf("length %d: scan from %d is %d, not %d", len(f), start, i, f.scan(start))
			}
		}
	})
}

// outside are places that a bitmap of that length doesn't have.
func outside(n int) []int {
	return []int{-1, -64, n, n + 1, n + 64, math.MaxInt, math.MinInt}
}

func TestBitsPlacesOutside(t *testing.T) {
	eachBitmap(func(f flags) {
		b, n := f.words(), len(f)
		for _, i := range outside(n) {
			if got, ok := impl.BitsPut(b, n, i, true); ok || len(got) != 0 {
				t.Fatalf("length %d: put %d", n, i)
			}
			if got, ok := impl.BitsPut(b, n, i, false); ok || len(got) != 0 {
				t.Fatalf("length %d: put %d off", n, i)
			}
			if impl.BitsHas(b, n, i) {
				t.Fatalf("length %d: has %d", n, i)
			}
			if got := impl.BitsScan(b, n, i); got != -1 {
				t.Fatalf("length %d: scan from %d is %d", n, i, got)
			}
		}
	})
}

func TestBitsEmpty(t *testing.T) {
	for _, b := range [][]uint64{nil, {}} {
		if n := impl.BitsCount(b, 0); n != 0 {
			t.Error("count", n)
		}
		if i := impl.BitsFree(b, 0, 0); i != -1 {
			t.Error("free", i)
		}
		if i := impl.BitsScan(b, 0, 0); i != -1 {
			t.Error("scan", i)
		}
	}
}

func TestBitsThatAreNotGood(t *testing.T) {
	rows := []struct {
		b []uint64
		n int
	}{
		{nil, -1}, {[]uint64{1}, -1}, {nil, math.MinInt}, {nil, math.MaxInt}, {nil, -63},
		{[]uint64{0}, 0}, {[]uint64{1}, 0},
		{nil, 1}, {[]uint64{1, 0}, 1}, {nil, 64}, {[]uint64{1, 0}, 64}, {[]uint64{1}, 65}, {[]uint64{1, 0, 0}, 65},
		{[]uint64{0b11}, 1}, {[]uint64{1<<63 | 1}, 1}, {[]uint64{1<<63 | 1}, 63}, {[]uint64{1, 2}, 65}, {[]uint64{1, 1 << 63}, 127},
		{make([]uint64, 63), impl.MaxBits}, {make([]uint64, 65), impl.MaxBits},
		{make([]uint64, 64), impl.MaxBits + 1}, {make([]uint64, 65), impl.MaxBits + 1}, {make([]uint64, 65), impl.MaxBits + 64},
	}
	for k, x := range rows {
		if got, ok := impl.BitsPut(x.b, x.n, 0, true); ok || len(got) != 0 {
			t.Error(k, "put", got, ok)
		}
		if impl.BitsHas(x.b, x.n, 0) {
			t.Error(k, "has")
		}
		if n := impl.BitsCount(x.b, x.n); n != -1 {
			t.Error(k, "count", n)
		}
		if i := impl.BitsFree(x.b, x.n, 0); i != -1 {
			t.Error(k, "free", i)
		}
		if i := impl.BitsScan(x.b, x.n, 0); i != -1 {
			t.Error(k, "scan", i)
		}
	}
}

func TestBitsEveryBitBeyondTheLength(t *testing.T) {
	for _, n := range []int{1, 5, 63, 65, 100, impl.MaxBits - 1} {
		for beyond := n; beyond < (n+63)/64*64; beyond++ {
			b := make([]uint64, (n+63)/64)
			b[beyond/64] |= 1 << (beyond % 64)
			if got := impl.BitsCount(b, n); got != -1 {
				t.Errorf("length %d with bit %d on: %d", n, beyond, got)
			}
		}
	}
}
