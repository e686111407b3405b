package tests

import (
	"fmt"
	"slices"
	"strings"
	"testing"

	"loop.example/s01868/impl"
)

func TestRunScriptOfNothing(t *testing.T) {
	for _, text := range []string{"", "\n", "   ", " \n\n ", "key ff\ndraws 1 2 3\nheap 0 1 1 0", strings.Repeat("\n", impl.MaxScript)} {
		expectTold(t, text, "committed 0 used 0")
	}
	if got := string(impl.RunScript(nil)); got != "committed 0 used 0\n" {
		t.Errorf("%q", got)
	}
}

func TestRunScriptLengths(t *testing.T) {
	at := fmt.Sprint("at ", slotAddr(0, 0, 0))
	for _, end := range []string{"malloc 7", "malloc 7\n", "malloc 7  "} {
		expectTold(t, filled(impl.MaxScript, end), at, "committed 1 used 1")
		expectTold(t, filled(impl.MaxScript+1, end), "? script")
		expectTold(t, filled(2*impl.MaxScript, end), "? script")
	}
	expectTold(t, strings.Repeat(" ", impl.MaxScript-1)+"x", "? 1", "committed 0 used 0")
	// Nothing else is told of a text that is too long, whatever stands in it.
	for _, text := range []string{"x\n", "heap 0 0 0 0\n", "x\nmalloc 1\nfree 9\n"} {
		expectTold(t, strings.Repeat(text, impl.MaxScript/len(text)+1), "? script")
		expectTold(t, text+strings.Repeat("\n", impl.MaxScript), "? script")
	}
}

func TestRunScriptUnclearLines(t *testing.T) {
	at := fmt.Sprint("at ", slotAddr(0, 0, 0))
	expectTold(t, "x", "? 1", "committed 0 used 0")
	expectTold(t, "x\nmalloc 8\n\n  y\nfree $1\nfree", "? 1", "? 4", "? 6", at, "ok", "committed 1 used 2")
	expectTold(t, "\n\nmalloc 8\nx", "? 4", at, "committed 1 used 1")
	// An unclear line is no operation: it has no answer that a Ref could name.
	expectTold(t, "malloc\nmalloc 8\nusable $1\nusable $2", "? 1", at, "size 8", "error 3", "committed 1 used 1")
	var all []string
	for n := range impl.MaxScript / 2 {
		all = append(all, fmt.Sprint("? ", n+1))
	}
	expectTold(t, strings.Repeat("-\n", impl.MaxScript/2), append(all, "committed 0 used 0")...)
}

func TestRunScriptHeapsThatAreNone(t *testing.T) {
	for _, line := range []string{
		"heap -1 4 2 100", "heap 17 4 2 100", "heap 2 0 2 100", "heap 2 33 2 100", "heap 2 -4 2 100", "heap 2 4 0 100", "heap 2 4 17 100", "heap 2 4 2 -1",
		fmt.Sprint("heap 2 4 2 ", impl.ArenaPages()+1), "heap 0 0 0 0", "heap 999999999 999999999 999999999 999999999",
	} {
		expectTold(t, line, "? heap")
		expectTold(t, line+"\nmalloc 8\nfree $1\n", "? heap")
		expectTold(t, "malloc 8\nx\n"+line+"\nfree $1\n\nmalloc", "? 2", "? 6", "? heap")
		// What stands last is what is run.
		expectTold(t, line+"\nheap 2 4 2 100", "committed 0 used 0")
		expectTold(t, "heap 2 4 2 100\n"+line, "? heap")
	}
	for _, line := range []string{"heap 0 1 1 0", fmt.Sprint("heap 16 32 16 ", impl.ArenaPages())} {
		expectTold(t, line, "committed 0 used 0")
	}
}

func TestRunScriptMostOps(t *testing.T) {
	lines := slices.Repeat([]string{"error 3"}, impl.MaxOps)
	text := strings.Repeat("free 1\n", impl.MaxOps)
	expectTold(t, text, append(lines, "committed 0 used 0")...)
	expectTold(t, text+"free", append(append([]string{"? 301"}, lines...), "committed 0 used 0")...)
	expectTold(t, text+"free 1", "? heap")
	expectTold(t, text+"free\nfree 1", "? 301", "? heap")
	expectTold(t, strings.Repeat("free 0\n", 2857), "? heap")
}

// The lines of each kind, and each of the codes.
func TestRunScriptByHand(t *testing.T) {
	small, wide, big := slotAddr(0, 0, 0), slotAddr(1, 0, 0), largeAt(1)
	expectTold(t, `
malloc 8
calloc 2 12
realloc 0 3000
realloc $1 20
usable $2
usable $3
load $2 3
store $2+1 00fFAb1c
load $2 6
load $2 0
free $2
free $3
`,
		fmt.Sprint("at ", small), fmt.Sprint("at ", wide), fmt.Sprint("at ", big), fmt.Sprint("at ", slotAddr(1, 0, 1)),
		"size 24", "size 3072", "bytes 000000", "ok", "bytes 0000ffab1c00", "bytes", "ok", "ok", "committed 2 used 6")
	expectTold(t, `
malloc 99999
malloc 18446744073709551615
calloc 9223372036854775808 2
load 0 1
load 18446744073709551615 1
store 1024 00
free 0
usable 5
realloc 16 1
malloc 8
free $10
free $10
realloc $10 9
usable $10
malloc 24
store $15+24 01
free $15
realloc $15 1
usable $15
load 0 4097
free $99
malloc 0
realloc $22 1000000
`,
		"error 1", "error 1", "error 1", "error 2", "error 2", "error 2", "error 3", "error 3", "error 3", fmt.Sprint("at ", small), "ok", "error 4", "error 4", "error 4",
		fmt.Sprint("at ", wide), "ok", "error 5", "error 5", "size 24", "error 6", "error 6", fmt.Sprint("at ", slotAddr(0, 0, 1)), "error 1", "committed 2 used 7")
}

func TestRunScriptAccesses(t *testing.T) {
	at := fmt.Sprint("at ", largeAt(1))
	zero := strings.Repeat("00", 4096)
	full := strings.Repeat("5a", 4096)
	expectTold(t, "malloc 5000\nload $1 4096\nload $1 4097\nload $1+5119 1\nload $1+5119 2\nload $1-1 1\nload $1+5120 0\nload 0 0\nload 0 18446744073709551615",
		at, "bytes "+zero, "error 6", "bytes 00", "error 2", "error 2", "bytes", "bytes", "error 6", "committed 5 used 1")
	expectTold(t, "malloc 5000\nstore $1+900 "+full+"\nload $1+900 4096\nload $1+899 2\n", at, "ok", "bytes "+full, "bytes 005a", "committed 5 used 1")
	expectTold(t, "malloc 5000\nstore $1 "+full+"5a\nload $1 2\n", at, "error 6", "bytes 0000", "committed 5 used 1")
	// Every byte is told by two small digits.
	for b := range 256 {
		expectTold(t, fmt.Sprintf("malloc 8\nstore $1+3 %02X\nload $1+3 1\nload $1+2 3", b), fmt.Sprint("at ", slotAddr(0, 0, 0)),
			"ok", fmt.Sprintf("bytes %02x", b), fmt.Sprintf("bytes 00%02x00", b), "committed 1 used 1")
	}
}

// What "heap", "key" and "draws" set is what is run.
func TestRunScriptConfigs(t *testing.T) {
	expectTold(t, "draws 3 -1\nmalloc 8\nmalloc 8\nmalloc 8", fmt.Sprint("at ", slotAddr(0, 0, 3)), fmt.Sprint("at ", slotAddr(0, 0, 63)),
		fmt.Sprint("at ", slotAddr(0, 0, 0)), "committed 1 used 3")
	expectTold(t, "malloc 8\nmalloc 24\nheap 2 4 2 1", fmt.Sprint("at ", slotAddr(0, 0, 0)), "error 1", "committed 1 used 1")
	for _, key := range []uint64{0, 1, 0xabcdef, 1 << 63, ^uint64(0)} {
		canary := plainCanary(key, slotAddr(0, 0, 0))
		line := fmt.Sprintf("key %X\n", key)
		if key == 1 {
			line = ""
		}
		expectTold(t, line+"malloc 8\nload $1+8 8", fmt.Sprint("at ", slotAddr(0, 0, 0)), fmt.Sprintf("bytes %x", canary), "committed 1 used 1")
	}
	// With no Mix a free draws nothing, and with a Fifo of one the second free lets the first go.
	expectTold(t, "heap 0 1 1 9\nmalloc 900\nfree $1\nmalloc 900\nfree $3\nmalloc 900\nfree $5", fmt.Sprint("at ", slotAddr(11, 0, 0)), "ok",
		fmt.Sprint("at ", slotAddr(11, 0, 1)), "ok", fmt.Sprint("at ", slotAddr(11, 0, 0)), "ok", "committed 4 used 3")
}

func TestRunScriptOfTheReadme(t *testing.T) {
	text := "heap 2 4 2 100\nkey 1\ndraws 3 0 1\nmalloc 100\nstore $1+98 07\nrealloc $1 3000\nload $3+97 3\nfree $1\nwhat\n"
	expectTold(t, text, "? 9", "at 62848", "ok", "at 192512", "bytes 000700", "error 4", "committed 4 used 3")
}
