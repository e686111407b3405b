package tests

import (
	"math"
	"math/big"
	"slices"
	"testing"

	"loop.example/s01868/impl"
)

// farDraws are draws below zero, at zero and at the ends of int.
var farDraws = []int{math.MinInt, math.MinInt + 1, -1 << 32, -17, -16, -15, -3, -2, -1, 0, 1, 2, 15, 16, 17, 1 << 32, math.MaxInt - 1, math.MaxInt}

func waiting(mix, fifo []int, limit int) impl.Waiting {
	return impl.Waiting{Mix: mix, Fifo: fifo, Limit: limit}
}

// empty has nothing but empty places.
func empty(mix, limit int) impl.Waiting {
	return waiting(slices.Repeat([]int{-1}, mix), nil, limit)
}

func copied(w impl.Waiting) impl.Waiting {
	return waiting(slices.Clone(w.Mix), slices.Clone(w.Fifo), w.Limit)
}

func sameWaiting(a, b impl.Waiting) bool {
	return slices.Equal(a.Mix, b.Mix) && slices.Equal(a.Fifo, b.Fifo) && a.Limit == b.Limit
}

// euclid is a modulo that is never negative, by other means than the program's.
func euclid(x, m int) int {
	return int(new(big.Int).Mod(big.NewInt(int64(x)), big.NewInt(int64(m))).Int64())
}

// plainPush does with plain lists what the document says, step by step.
func plainPush(w impl.Waiting, slot, draw int) (impl.Waiting, int) {
	w = copied(w)
	on := slot
	if len(w.Mix) > 0 {
		i := euclid(draw, len(w.Mix))
		on, w.Mix[i] = w.Mix[i], slot
		if on == -1 {
			return w, -1
		}
	}
	w.Fifo = append(w.Fifo, on)
	if len(w.Fifo) <= w.Limit {
		return w, -1
	}
	left := w.Fifo[0]
	w.Fifo = w.Fifo[1:]
	return w, left
}

func plainRun(mix, limit int, slots, draws []int) []int {
	w := empty(mix, limit)
	var out []int
	for j, slot := range slots {
		draw, left := 0, 0
		if j < len(draws) {
			draw = draws[j]
		}
		w, left = plainPush(w, slot, draw)
		out = append(out, left)
	}
	return out
}

// upTo is the list 0, 1, .., n-1.
func upTo(n int) []int {
	list := make([]int, n)
	for i := range list {
		list[i] = i
	}
	return list
}

// someDraws are n draws: small ones of both signs, and now and then a far one.
func someDraws(r *numbers, n int) []int {
	draws := make([]int, n)
	for i := range draws {
		draws[i] = r.below(64) - 32
		if r.below(8) == 0 {
			draws[i] = one(r, farDraws...)
		}
	}
	return draws
}

// someWaiting has that shape; of its places in Mix, about a third are empty.
func someWaiting(r *numbers, mix, fifo, limit int) impl.Waiting {
	w := impl.Waiting{Limit: limit}
	for range mix {
		w.Mix = append(w.Mix, one(r, -1, 0, r.below(500)))
	}
	for range fifo {
		w.Fifo = append(w.Fifo, one(r, 0, r.below(500), math.MaxInt))
	}
	return w
}

// eachWaiting gives good quarantines of all shapes.
func eachWaiting(try func(w impl.Waiting)) {
	r := &numbers{5}
	for mix := range impl.MaxMix + 1 {
		for limit := 1; limit <= impl.MaxFifo; limit++ {
			for fifo := range limit + 1 {
				try(someWaiting(r, mix, fifo, limit))
			}
		}
	}
}

// expectPush pushes, and holds the answer and the argument against what is wanted.
func expectPush(t *testing.T, w impl.Waiting, slot, draw int, want impl.Waiting, wantLeft int) {
	t.Helper()
	before := copied(w)
	got, left := impl.WaitPush(w, slot, draw)
	if !sameWaiting(got, want) || left != wantLeft {
		t.Errorf("%v, slot %d, draw %d: %v, %d, not %v, %d", before, slot, draw, got, left, want, wantLeft)
	}
	if !sameWaiting(w, before) {
		t.Errorf("%v, slot %d, draw %d: the argument became %v", before, slot, draw, w)
	}
}

func TestPushByHand(t *testing.T) {
	rows := []struct {
		w          impl.Waiting
		slot, draw int
		want       impl.Waiting
		left       int
	}{
		{waiting(nil, nil, 1), 7, 9, waiting(nil, []int{7}, 1), -1},
		{waiting(nil, []int{7}, 1), 8, 9, waiting(nil, []int{8}, 1), 7},
		{waiting(nil, []int{7}, 1), 7, 0, waiting(nil, []int{7}, 1), 7},
		{waiting(nil, []int{0, 1}, 3), 2, 0, waiting(nil, []int{0, 1, 2}, 3), -1},
		{waiting(nil, []int{0, 1, 2}, 3), 3, 0, waiting(nil, []int{1, 2, 3}, 3), 0},
		{waiting([]int{-1}, nil, 1), 0, 5, waiting([]int{0}, nil, 1), -1},
		{waiting([]int{0}, nil, 1), 4, 5, waiting([]int{4}, []int{0}, 1), -1},
		{waiting([]int{4}, []int{0}, 1), 6, 5, waiting([]int{6}, []int{4}, 1), 0},
		{waiting([]int{-1}, []int{0}, 1), 6, 5, waiting([]int{6}, []int{0}, 1), -1},
		{waiting([]int{3, -1, 5}, []int{8, 9}, 2), 1, 0, waiting([]int{1, -1, 5}, []int{9, 3}, 2), 8},
		{waiting([]int{3, -1, 5}, []int{8, 9}, 2), 1, 4, waiting([]int{3, 1, 5}, []int{8, 9}, 2), -1},
		{waiting([]int{3, -1, 5}, []int{8, 9}, 2), 1, -1, waiting([]int{3, -1, 1}, []int{9, 5}, 2), 8},
		{waiting([]int{3, -1, 5}, []int{8, 9}, 2), 1, -2, waiting([]int{3, 1, 5}, []int{8, 9}, 2), -1},
		{waiting([]int{3, -1, 5}, []int{8, 9}, 2), 1, -3, waiting([]int{1, -1, 5}, []int{9, 3}, 2), 8},
		{waiting([]int{3, -1, 5}, []int{8, 9}, 2), 1, math.MinInt, waiting([]int{3, 1, 5}, []int{8, 9}, 2), -1},
		{waiting([]int{3, -1, 5}, []int{8, 9}, 3), 1, math.MaxInt, waiting([]int{3, 1, 5}, []int{8, 9}, 3), -1},
		{waiting([]int{3, -1, 5}, []int{8, 9}, 3), math.MaxInt, 2, waiting([]int{3, -1, math.MaxInt}, []int{8, 9, 5}, 3), -1},
	}
	for _, x := range rows {
		expectPush(t, x.w, x.slot, x.draw, x.want, x.left)
	}
}

func TestPushAgainstPlainLists(t *testing.T) {
	r := &numbers{6}
	eachWaiting(func(w impl.Waiting) {
		for _, draw := range farDraws {
			slot := one(r, 0, r.below(500), math.MaxInt)
			want, left := plainPush(w, slot, draw)
			expectPush(t, w, slot, draw, want, left)
		}
	})
}

func TestDrawPicksThePlace(t *testing.T) {
	for mix := 1; mix <= impl.MaxMix; mix++ {
		w := empty(mix, impl.MaxFifo)
		for i := range mix {
			want := copied(w)
			want.Mix[i] = 5
			for turns := -3; turns <= 3; turns++ {
				expectPush(t, w, 5, i+turns*mix, want, -1)
			}
		}
	}
	// 2 to the 63rd is a multiple of 16, and 8 more than one of 15; the greatest int is 7 more.
	for _, x := range []struct{ mix, draw, place int }{
		{16, math.MinInt, 0}, {16, math.MaxInt, 15}, {15, math.MinInt, 7}, {15, math.MaxInt, 7}, {1, math.MinInt, 0},
	} {
		w := empty(x.mix, 1)
		want := copied(w)
		want.Mix[x.place] = 0
		expectPush(t, w, 0, x.draw, want, -1)
	}
}

func TestFifoJustFull(t *testing.T) {
	for _, limit := range []int{1, 2, 31, impl.MaxFifo} {
		for _, mix := range [][]int{nil, {100}} {
			on := 200 // what goes on to Fifo when 200 is pushed
			wantMix := []int(nil)
			if mix != nil {
				on, wantMix = 100, []int{200}
			}
			less := waiting(mix, upTo(limit-1), limit)
			expectPush(t, less, 200, 0, waiting(wantMix, append(upTo(limit-1), on), limit), -1)
			full := waiting(mix, upTo(limit), limit)
			expectPush(t, full, 200, 0, waiting(wantMix, append(upTo(limit)[1:], on), limit), 0)
		}
		// An empty place takes the slot, so that nothing has to leave a Fifo that is full.
		open := waiting([]int{-1}, upTo(limit), limit)
		expectPush(t, open, 200, 0, waiting([]int{200}, upTo(limit), limit), -1)
	}
}

// badWaitings each break one of the rules by the least there is, or by far.
func badWaitings() []impl.Waiting {
	bad := []impl.Waiting{
		{},
		{Mix: []int{1}, Limit: 0},
		{Limit: -1},
		{Limit: math.MinInt},
		{Limit: impl.MaxFifo + 1},
		{Limit: math.MaxInt},
		{Mix: make([]int, impl.MaxMix+1), Limit: 1},
		{Mix: slices.Repeat([]int{-1}, impl.MaxMix+1), Limit: impl.MaxFifo},
		{Mix: make([]int, 1000), Limit: 1},
		{Fifo: []int{1}, Limit: 0},
		{Fifo: make([]int, impl.MaxFifo+1), Limit: impl.MaxFifo},
		{Fifo: make([]int, impl.MaxFifo+1), Limit: impl.MaxFifo + 1},
	}
	for limit := 1; limit <= impl.MaxFifo; limit++ {
		bad = append(bad, impl.Waiting{Fifo: upTo(limit + 1), Limit: limit})
		for at := range limit {
			for _, low := range []int{-1, -2, math.MinInt} {
				w := impl.Waiting{Mix: []int{-1}, Fifo: upTo(limit), Limit: limit}
				w.Fifo[at] = low
				bad = append(bad, w)
			}
		}
	}
	for mix := 1; mix <= impl.MaxMix; mix++ {
		for at := range mix {
			for _, low := range []int{-2, -3, math.MinInt} {
				w := impl.Waiting{Mix: upTo(mix), Limit: 2}
				w.Mix[at] = low
				bad = append(bad, w)
			}
		}
	}
	return bad
}

func TestPushIntoWhatIsNotGood(t *testing.T) {
	for _, w := range badWaitings() {
		for _, draw := range []int{0, 1, -1, math.MinInt} {
			expectPush(t, w, 1, draw, impl.Waiting{}, -1)
		}
	}
}

func TestPushOfNoSlot(t *testing.T) {
	eachWaiting(func(w impl.Waiting) {
		for _, slot := range []int{-1, -2, math.MinInt} {
			expectPush(t, w, slot, 0, impl.Waiting{}, -1)
		}
	})
}

// journey asks of pushes one after another just what the promise says; all slots differ.
func journey(t *testing.T, mix, limit, pushes int, draws []int) {
	w := empty(mix, limit)
	gone := make([]int, pushes) // how often each slot has left
	for now := range pushes {
		left := 0
		w, left = impl.WaitPush(w, now, draws[now])
		if left < -1 || left > now {
			t.Fatalf("mix %d, limit %d: %d left, which was never pushed", mix, limit, left)
		}
		if left >= 0 {
			gone[left]++
			if now-left < limit {
				t.Fatalf("mix %d, limit %d: slot %d left after %d later pushes", mix, limit, left, now-left)
			}
		}
		held := slices.Clone(w.Fifo)
		for _, slot := range w.Mix {
			if slot != -1 {
				held = append(held, slot)
			}
		}
		if len(held) > mix+limit {
			t.Fatalf("mix %d, limit %d: %d wait", mix, limit, len(held))
		}
		seen := slices.Clone(gone[:now+1])
		for _, slot := range held {
			seen[slot]++
		}
		if slot := slices.IndexFunc(seen, func(n int) bool { return n != 1 }); slot >= 0 {
			t.Fatalf("mix %d, limit %d: push %d: slot %d is there %d times", mix, limit, now, slot, seen[slot])
		}
	}
}

func TestSlotsWaitLongEnoughAndAreNotLost(t *testing.T) {
	r := &numbers{7}
	for mix := range impl.MaxMix + 1 {
		for limit := 1; limit <= impl.MaxFifo; limit++ {
			journey(t, mix, limit, 150, someDraws(r, 150))
			journey(t, mix, limit, 60, make([]int, 60)) // always the same place
			journey(t, mix, limit, 60, upTo(60))        // each place in turn
		}
	}
}

// TestRunSlotsWaitLongEnough asks the same of RunWaiting, whose answer tells only who left.
func TestRunSlotsWaitLongEnough(t *testing.T) {
	r := &numbers{8}
	for _, mix := range []int{0, 1, 2, 15, impl.MaxMix} {
		for _, limit := range []int{1, 2, 31, impl.MaxFifo} {
			const pushes = impl.MaxPushes
			got, ok := impl.RunWaiting(mix, limit, upTo(pushes), someDraws(r, pushes))
			if !ok || len(got) != pushes {
				t.Fatalf("mix %d, limit %d: %d answers, %v", mix, limit, len(got), ok)
			}
			left := [pushes]int{}
			for now, slot := range got {
				if slot == -1 {
					continue
				}
				left[slot]++
				if left[slot] > 1 || now-slot < limit {
					t.Fatalf("mix %d, limit %d: slot %d left at push %d, time %d", mix, limit, slot, now, left[slot])
				}
			}
			count := 0
			for _, n := range left {
				count += n
			}
			if wait := pushes - count; wait > mix+limit {
				t.Errorf("mix %d, limit %d: %d wait", mix, limit, wait)
			}
		}
	}
}

func expectRun(t *testing.T, mix, limit int, slots, draws, want []int) {
	t.Helper()
	slotsBefore, drawsBefore := slices.Clone(slots), slices.Clone(draws)
	got, ok := impl.RunWaiting(mix, limit, slots, draws)
	if !ok || !slices.Equal(got, want) {
		t.Errorf("mix %d, limit %d, slots %v, draws %v: %v, %v, not %v", mix, limit, slots, draws, got, ok, want)
	}
	if !slices.Equal(slots, slotsBefore) || !slices.Equal(draws, drawsBefore) {
		t.Errorf("mix %d, limit %d: an argument was changed", mix, limit)
	}
}

func TestRunByHand(t *testing.T) {
	rows := []struct {
		mix, limit         int
		slots, draws, want []int
	}{
		{0, 1, []int{4, 5, 5, 0}, nil, []int{-1, 4, 5, 5}},
		{0, 3, []int{4, 5, 6, 7, 8}, []int{9, 9, 9, 9, 9, 9}, []int{-1, -1, -1, 4, 5}},
		{1, 1, []int{4, 5, 6, 7}, []int{-1, math.MinInt, 3, 0}, []int{-1, -1, 4, 5}},
		{2, 1, []int{4, 5, 6, 7, 8}, []int{0, 1, 0, 1, 1}, []int{-1, -1, -1, 4, 5}},
		{3, 1, []int{4, 5, 6, 7, 8}, []int{-1, -2, -3, -1, -1}, []int{-1, -1, -1, -1, 4}},
		{2, 1, []int{4, 5, 6, 7, 8}, []int{1}, []int{-1, -1, -1, 5, 6}}, // behind the draws' end: place 0
		{2, 1, []int{4, 5, 6, 7}, nil, []int{-1, -1, 4, 5}},
		{impl.MaxMix, impl.MaxFifo, nil, nil, nil},
		{impl.MaxMix, impl.MaxFifo, nil, []int{1, 2, 3}, nil},
		{0, 1, []int{0}, nil, []int{-1}},
	}
	for _, x := range rows {
		expectRun(t, x.mix, x.limit, x.slots, x.draws, x.want)
	}
}

func TestRunAgainstPlainLists(t *testing.T) {
	r := &numbers{9}
	for mix := range impl.MaxMix + 1 {
		for limit := 1; limit <= impl.MaxFifo; limit++ {
			slots := make([]int, 100+r.below(100))
			for j := range slots {
				slots[j] = one(r, 0, r.below(40), r.below(5000), math.MaxInt)
			}
			for _, draws := range []int{0, 1, len(slots) / 2, len(slots) - 1, len(slots), len(slots) + 5} {
				row := someDraws(r, draws)
				expectRun(t, mix, limit, slots, row, plainRun(mix, limit, slots, row))
			}
		}
	}
}

func TestRunOfMaxPushes(t *testing.T) {
	r := &numbers{10}
	for _, n := range []int{impl.MaxPushes - 1, impl.MaxPushes} {
		slots, draws := upTo(n), someDraws(r, n-300)
		expectRun(t, impl.MaxMix, impl.MaxFifo, slots, draws, plainRun(impl.MaxMix, impl.MaxFifo, slots, draws))
	}
	expectRun(t, 0, 1, []int{3}, make([]int, impl.MaxPushes+1), []int{-1}) // draws have no such bound
}

func TestRunOfWrongArguments(t *testing.T) {
	none := func(mix, limit int, slots []int) {
		t.Helper()
		for _, draws := range [][]int{nil, {1, -1}} {
			if got, ok := impl.RunWaiting(mix, limit, slots, draws); ok || len(got) != 0 {
				t.Errorf("mix %d, limit %d, %d slots: %v, %v", mix, limit, len(slots), got, ok)
			}
		}
	}
	for _, slots := range [][]int{nil, {}, {1}, upTo(50)} {
		for _, mix := range []int{math.MinInt, -17, -1, impl.MaxMix + 1, 1 << 40, math.MaxInt} {
			none(mix, 1, slots)
		}
		for _, limit := range []int{math.MinInt, -1, 0, impl.MaxFifo + 1, 1 << 40, math.MaxInt} {
			none(0, limit, slots)
			none(1, limit, slots)
		}
	}
	none(0, 1, upTo(impl.MaxPushes+1))
	none(impl.MaxMix, impl.MaxFifo, upTo(2*impl.MaxPushes))
	for _, low := range []int{-1, -2, math.MinInt} {
		for _, at := range []int{0, 1, 25, 49} {
			slots := upTo(50)
			slots[at] = low
			none(0, 1, slots)
			none(1, 1, slots)
			none(impl.MaxMix, impl.MaxFifo, slots)
		}
	}
}

// scribble overwrites a list and its spare room.
func scribble(list []int) {
	for i := range list[:cap(list)] {
		list[:cap(list)][i] = -77
	}
}

func TestPushSharesNoMemory(t *testing.T) {
	eachWaiting(func(w impl.Waiting) {
		before := copied(w)
		got, _ := impl.WaitPush(w, 9, 1)
		kept := copied(got)
		scribble(w.Mix)
		scribble(w.Fifo)
		if !sameWaiting(got, kept) {
			t.Fatalf("%v: the answer hangs on the argument's memory", before)
		}
		w = copied(before)
		got, _ = impl.WaitPush(w, 9, 1)
		scribble(got.Mix)
		if !slices.Equal(got.Fifo, kept.Fifo) {
			t.Fatalf("%v: the answer's lists share memory", before)
		}
		scribble(got.Fifo)
		if !sameWaiting(w, before) {
			t.Fatalf("%v: the argument hangs on the answer's memory", before)
		}
	})
}

func TestPushLeavesSpareRoomAlone(t *testing.T) {
	room := []int{3, 4, 50, 51, 52, 53} // Mix, Fifo and what is behind them, all in one
	w := waiting(room[:2], room[1:3], 3)
	got, left := impl.WaitPush(w, 9, 1)
	want := waiting([]int{3, 9}, []int{4, 50, 4}, 3)
	if !sameWaiting(got, want) || left != -1 {
		t.Error(got, left)
	}
	if !slices.Equal(room, []int{3, 4, 50, 51, 52, 53}) {
		t.Error("the argument's memory was changed", room)
	}
}

func TestKeptAnswersStay(t *testing.T) {
	r := &numbers{11}
	for _, mix := range []int{0, 1, 3, impl.MaxMix} {
		w := empty(mix, 5)
		var kept, copies []impl.Waiting
		for slot := range 80 {
			w, _ = impl.WaitPush(w, slot, r.below(99)-50)
			kept, copies = append(kept, w), append(copies, copied(w))
			impl.WaitPush(impl.Waiting{}, 1, 1)
		}
		for i := range kept {
			if !sameWaiting(kept[i], copies[i]) {
				t.Fatalf("mix %d: answer %d became %v, was %v", mix, i, kept[i], copies[i])
			}
		}
		// From one argument the same answer comes each time, and the answers are apart.
		a, left := impl.WaitPush(w, 500, 2)
		want := copied(a)
		b, again := impl.WaitPush(w, 500, 2)
		scribble(b.Mix)
		scribble(b.Fifo)
		if c, third := impl.WaitPush(w, 500, 2); !sameWaiting(a, want) || !sameWaiting(c, want) || left != again || left != third {
			t.Errorf("mix %d: %v, then %v", mix, want, c)
		}
	}
}

func TestRunSharesNoMemory(t *testing.T) {
	slots, draws := upTo(50), upTo(50)
	got, _ := impl.RunWaiting(2, 3, slots, draws)
	kept := slices.Clone(got)
	other, _ := impl.RunWaiting(2, 3, slots, draws)
	scribble(other)
	if !slices.Equal(slots, upTo(50)) || !slices.Equal(draws, upTo(50)) {
		t.Error("an argument hangs on the answer's memory")
	}
	scribble(slots)
	scribble(draws)
	impl.RunWaiting(0, 1, []int{8, 9}, nil)
	if !slices.Equal(got, kept) {
		t.Error("an answer that was kept became", got)
	}
}

func TestWaitLimits(t *testing.T) {
	if limits := [3]int{impl.MaxMix, impl.MaxFifo, impl.MaxPushes}; limits != [3]int{16, 32, 2000} {
		t.Error(limits)
	}
}
