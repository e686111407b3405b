package impl

import (
	"iter"
	"math/bits"
	"slices"
)

// MaxBits is the greatest length of a bitmap.
const MaxBits = 4096

// word is what a bitmap is made of.
type word interface {
	~uint8 | ~uint16 | ~uint32 | ~uint64
}

// bitmap is a row of bits, the lowest bit of each word first. All methods but good ask
// for a good one, and for places inside it.
type bitmap[W word] struct {
	words  []W
	length int
}

// BitsPut is the bitmap with bit i on or off.
func BitsPut(b []uint64, n int, i int, on bool) ([]uint64, bool) {
	m := bitmap[uint64]{b, n}
	if !m.good() || !m.inside(i) {
		return nil, false
	}
	return m.with(i, on).words, true
}

// BitsHas tells whether bit i is on.
func BitsHas(b []uint64, n int, i int) bool {
	m := bitmap[uint64]{b, n}
	return m.good() && m.inside(i) && m.has(i)
}

// BitsCount is how many bits are on.
func BitsCount(b []uint64, n int) int {
	m := bitmap[uint64]{b, n}
	if !m.good() {
		return -1
	}
	return m.count()
}

// BitsFree is the place of free bit number k, or -1.
func BitsFree(b []uint64, n int, k int) int {
	m := bitmap[uint64]{b, n}
	if !m.good() || k < 0 {
		return -1
	}
	for i := range m.free() {
		if k == 0 {
			return i
		}
		k--
	}
	return -1
}

// BitsScan is the first free bit from start on, going round, or -1.
func BitsScan(b []uint64, n int, start int) int {
	m := bitmap[uint64]{b, n}
	if !m.good() || !m.inside(start) {
		return -1
	}
	return m.scan(start)
}

// width is how many bits a word has.
func (m bitmap[W]) width() int {
	return bits.Len64(uint64(^W(0)))
}

// good tells whether the words are just those that the length asks for, with no bit on
// behind it.
func (m bitmap[W]) good() bool {
	if m.length < 0 || m.length > MaxBits {
		return false
	}
	width := m.width()
	if len(m.words) != (m.length+width-1)/width {
		return false
	}
	rest := m.length % width
	return rest == 0 || m.words[len(m.words)-1]>>rest == 0
}

func (m bitmap[W]) inside(i int) bool {
	return i >= 0 && i < m.length
}

func (m bitmap[W]) has(i int) bool {
	width := m.width()
	return m.words[i/width]>>(i%width)&1 == 1
}

// with is a copy in which bit i is on or off: the words may be a caller's own.
func (m bitmap[W]) with(i int, on bool) bitmap[W] {
	width := m.width()
	bit := W(1) << (i % width)
	words := slices.Clone(m.words)
	if on {
		words[i/width] |= bit
	} else {
		words[i/width] &^= bit
	}
	return bitmap[W]{words, m.length}
}

func (m bitmap[W]) count() int {
	n := 0
	for _, w := range m.words {
		n += bits.OnesCount64(uint64(w))
	}
	return n
}

// free goes through the places of the free bits, rising.
func (m bitmap[W]) free() iter.Seq[int] {
	return func(yield func(int) bool) {
		for i := range m.length {
			if !m.has(i) && !yield(i) {
				return
			}
		}
	}
}

// scan goes round once, word by word. The word of start comes twice: first for its bits
// from start on, and at the end for those ahead of start.
func (m bitmap[W]) scan(start int) int {
	width := m.width()
	found := -1
words:
	for turn := range len(m.words) + 1 {
		at := (start/width + turn) % len(m.words)
		for i := at * width; i < (at+1)*width; i++ {
			if i >= m.length {
				continue words
			}
			if turn == 0 && i < start {
				continue
			}
			if !m.has(i) {
				found = i
				break words
			}
		}
	}
	return found
}
