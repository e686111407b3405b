package tests

import (
	"fmt"
	"math"
	"slices"
	"strings"
	"testing"

	"loop.example/s01868/impl"
)

func TestScriptNumbers(t *testing.T) {
	if impl.MaxScript != 20000 {
		t.Errorf("MaxScript is %d", impl.MaxScript)
	}
}

func TestScriptOfNothing(t *testing.T) {
	for _, text := range []string{"", "\n", "\n\n\n", " ", "   \n \n  ", strings.Repeat("\n", impl.MaxScript), strings.Repeat(" ", impl.MaxScript)} {
		expectOps(t, text)
	}
	if c, ops, unclear := impl.ReadScript(nil); !sameReading(reading{c, ops, unclear}, reading{config: atFirst()}) {
		t.Errorf("%v %v %v", c, ops, unclear)
	}
}

// filled is a script of that length whose last bytes are these.
func filled(length int, end string) string {
	return strings.Repeat("\n", length-len(end)) + end
}

func TestScriptLengths(t *testing.T) {
	for _, end := range []string{"malloc 7", "malloc 7\n", "malloc 7  ", "\nmalloc 7\n\n"} {
		expectOps(t, filled(impl.MaxScript-1, end), malloc(7))
		expectOps(t, filled(impl.MaxScript, end), malloc(7))
		for _, more := range []int{1, 2, 100, impl.MaxScript} {
			expectReading(t, filled(impl.MaxScript+more, end), reading{})
		}
	}
	// The fixed answer has neither what was read ahead of the end nor what stands at first.
	long := "heap 1 2 3 4\nkey 5\ndraws 6\nmalloc 7\nunclear\n"
	expectReading(t, long+strings.Repeat(" ", impl.MaxScript), reading{})
	expectReading(t, strings.Repeat("\n", impl.MaxScript+1), reading{})
	expectReading(t, strings.Repeat("malloc 1\n", 3000), reading{})
	c, ops, unclear := impl.ReadScript(make([]byte, impl.MaxScript+1))
	if !sameConfig(c, impl.HeapConfig{}) || len(ops) != 0 || len(unclear) != 0 {
		t.Errorf("%v %v %v", c, ops, unclear)
	}
}

func TestScriptOfMostLines(t *testing.T) {
	x := readingOf(strings.Repeat("x\n", impl.MaxScript/2))
	if len(x.unclear) != impl.MaxScript/2 {
		t.Fatalf("%d unclear lines", len(x.unclear))
	}
	for i, n := range x.unclear {
		if n != i+1 {
			t.Fatalf("unclear line %d has number %d", i+1, n)
		}
	}
	// More operations than a heap runs are read all the same.
	if x := readingOf(strings.Repeat("free 0\n", 2857)); len(x.ops) != 2857 || len(x.unclear) != 0 {
		t.Errorf("%d operations, %v", len(x.ops), x.unclear)
	}
	if x := readingOf("draws" + strings.Repeat(" 1", 9997)); len(x.config.Draws) != 9997 || len(x.unclear) != 0 {
		t.Errorf("%d draws, %v", len(x.config.Draws), x.unclear)
	}
}

func TestScriptLines(t *testing.T) {
	for text, want := range map[string][]int{
		"x":                          {1},
		"x\n":                        {1},
		"x\n\n":                      {1},
		"\nx":                        {2},
		"\n\nx\n":                    {3},
		"x\nx":                       {1, 2},
		"x\nx\n":                     {1, 2},
		"x\n\nx\n \n\nx":             {1, 3, 6},
		"   \nx\n   ":                {2},
		"malloc 1\nx\nmalloc 2\n\nx": {2, 5},
		"malloc\n1\n":                {1, 2},
		"malloc 1 \\\n2\n":           {1, 2},
	} {
		if got := readingOf(text).unclear; !slices.Equal(got, want) {
			t.Errorf("%q: unclear lines %v, not %v", text, got, want)
		}
	}
	for _, text := range []string{"malloc 1\nfree 2", "malloc 1\nfree 2\n", "\nmalloc 1\n\n\nfree 2\n\n", " \nmalloc 1\n   \nfree 2\n "} {
		expectOps(t, text, malloc(1), free(0, 2))
	}
}

func TestScriptSpaces(t *testing.T) {
	for _, text := range []string{"calloc 3 4", " calloc 3 4", "calloc 3 4 ", "calloc  3    4", "    calloc   3 4     ", strings.Repeat(" ", 4000) + "calloc" + strings.Repeat(" ", 4000) + "3 4"} {
		expectOps(t, text, calloc(3, 4))
		expectOps(t, text+"\n", calloc(3, 4))
		expectOps(t, "\n"+text+"\n\n"+text, calloc(3, 4), calloc(3, 4))
	}
	expectSet(t, "  heap  1   2 3  4 ", impl.HeapConfig{Mix: 1, Fifo: 2, Large: 3, Budget: 4, Key: 1})
}

// Only byte 32 parts words, and only byte 10 parts lines.
func TestScriptOtherWhiteSpace(t *testing.T) {
	for _, s := range []string{"\t", "\r", "\v", "\f", "\x00", "\u00a0", "\u0085", "\u2003", "\u2028", "\u3000", "\x85", "\xa0"} {
		expectUnclear(t, s, " "+s+" ", "malloc"+s+"1", "malloc 1"+s, s+"malloc 1", "malloc 1 "+s, "malloc "+s+" 1", "calloc 1"+s+"2",
			"draws 1"+s+"2", "draws 1 "+s, "key 1"+s, "free $1"+s, "free $1+"+s+"1", "free $1+1"+s, "store 1 ab"+s, "store 1 a"+s+"b")
	}
	expectReading(t, "malloc 1\r\nmalloc 2\r\n", reading{config: atFirst(), unclear: []int{1, 2}})
	expectReading(t, "malloc 1\rmalloc 2", reading{config: atFirst(), unclear: []int{1}})
}

func TestScriptFirstWords(t *testing.T) {
	expectOps(t, "malloc 5", malloc(5))
	expectOps(t, "calloc 5 6", calloc(5, 6))
	expectOps(t, "realloc 5 6", realloc(0, 5, 6))
	expectOps(t, "realloc $5 6", realloc(5, 0, 6))
	expectOps(t, "free 5", free(0, 5))
	expectOps(t, "free $5", free(5, 0))
	expectOps(t, "usable 5", usable(0, 5))
	expectOps(t, "usable $5", usable(5, 0))
	expectOps(t, "load 5 6", loadAt(0, 5, 6))
	expectOps(t, "load $5 6", loadAt(5, 0, 6))
	expectOps(t, "store 5 0607", storeAt(0, 5, 6, 7))
	expectOps(t, "store $5 0607", storeAt(5, 0, 6, 7))
	expectOps(t, "free 1\nmalloc 2\nfree 1\nstore 3 04\nload 5 6\nmalloc 2\n",
		free(0, 1), malloc(2), free(0, 1), storeAt(0, 3, 4), loadAt(0, 5, 6), malloc(2))
}

func TestScriptWordsTooFewAndTooMany(t *testing.T) {
	for first, form := range forms {
		// A word that is good in every place, so that the count alone is at fault.
		word := " 11"
		if x := readingOf(first + strings.Repeat(word, len(form))); len(x.unclear) != 0 {
			t.Errorf("%s with %d words is unclear", first, len(form))
		}
		for n := range len(form) + 4 {
			if n != len(form) {
				expectUnclear(t, first+strings.Repeat(word, n))
			}
		}
	}
	for n := range 30 {
		c := atFirst()
		c.Draws = slices.Repeat([]int{11}, n)
		expectSet(t, "draws"+strings.Repeat(" 11", n), c)
	}
}

func TestScriptNoFirstWords(t *testing.T) {
	for _, first := range firsts {
		words := " 11"
		if first != "draws" {
			words = strings.Repeat(" 11", len(forms[first]))
		}
		expectUnclear(t, strings.ToUpper(first)+words, strings.ToUpper(first[:1])+first[1:]+words, first[1:]+words, first[:len(first)-1]+words,
			first+first+words, first+"s"+words, "x"+first+words, "-"+first+words, first+"\x00"+words, first+":"+words, "\ufeff"+first+words, first+"\xff"+words,
			"11 "+first+words, "# "+first+words, first+strings.ReplaceAll(words, " ", ""), first+strings.ReplaceAll(words, " ", ","))
	}
	expectUnclear(t, "x", "?", "#", "-", "$", "$1", "0", "11", "ok", "script", "loads 1 2", "quit", "\x00", "\xff\xfe", "é", "mаlloc 1")
}

func TestScriptHeap(t *testing.T) {
	for _, n := range [][4]int{{0, 0, 0, 0}, {1, 2, 3, 4}, {-1, -2, -3, -4}, {999999999, -999999999, 0, 100000000}, {16, 32, 16, 283}} {
		c := impl.HeapConfig{Mix: n[0], Fifo: n[1], Large: n[2], Budget: n[3], Key: 1}
		expectSet(t, fmt.Sprintf("heap %d %d %d %d", n[0], n[1], n[2], n[3]), c)
		expectSet(t, fmt.Sprintf("heap 7 7 7 7\nheap %d %d %d %d\nkey 1\ndraws\n", n[0], n[1], n[2], n[3]), c)
	}
	// The last clear line is what stands, wherever the operations are.
	expectReading(t, "heap 1 2 3 4\nmalloc 1\nheap 5 6 7 8\nheap 9 9 9 x\n",
		reading{impl.HeapConfig{Mix: 5, Fifo: 6, Large: 7, Budget: 8, Key: 1}, []impl.Op{malloc(1)}, []int{4}})
	for i := range 4 {
		for _, bad := range []string{"x", "1234567890", "-", "+1", "1.5", "$1", "0x1", "--1", "1-", "-1234567890"} {
			words := []string{"9", "9", "9", "9"}
			words[i] = bad
			expectUnclear(t, "heap "+strings.Join(words, " "))
		}
	}
}

func TestScriptIntegers(t *testing.T) {
	for word, n := range map[string]int{
		"0": 0, "1": 1, "9": 9, "10": 10, "123456789": 123456789, "999999999": 999999999, "100000000": 100000000,
		"-0": 0, "-1": -1, "-9": -9, "-123456789": -123456789, "-999999999": -999999999,
		"00": 0, "007": 7, "000000000": 0, "000000001": 1, "-000000000": 0, "-000000042": -42, "-07": -7,
	} {
		c := atFirst()
		c.Draws = []int{n}
		expectSet(t, "draws "+word, c)
		c.Draws = []int{5, n, 6, n}
		expectSet(t, "draws 5 "+word+"\ndraws 6 "+word, c)
		c = impl.HeapConfig{Mix: n, Fifo: n, Large: n, Budget: n, Key: 1}
		expectSet(t, fmt.Sprintf("heap %s %s %s %s", word, word, word, word), c)
	}
	for _, word := range []string{
		"-", "--", "--1", "-+1", "+", "+1", "+0", "1-", "1-1", "1+1", "0x1", "1e3", "1.0", "1,2", "1_0", "a", "f", "-a", "$1", "'1'", "- 1",
		"1234567890", "0000000000", "0000000001", "-1234567890", "-0000000000", "12345678901234567890", strings.Repeat("1", 300),
		"٣", "３", "-３", "1３", "³", "½", "−1", "\x00", "\xff", "1\xff", "-\xff", "/", ":", "1/", "1:", "@", "`",
	} {
		expectUnclear(t, "draws "+word, "draws 1 2 "+word, "draws "+word+" 1 2", "heap 1 2 3 "+word, "heap "+word+" 2 3 4")
	}
}

func TestScriptKey(t *testing.T) {
	for word, key := range map[string]uint64{
		"0": 0, "1": 1, "9": 9, "a": 10, "f": 15, "A": 10, "F": 15, "10": 16, "fF": 255, "Ff": 255, "00": 0, "0001": 1,
		"0123456789abcdef": 0x0123456789abcdef, "FEDCBA9876543210": 0xfedcba9876543210, "dEaDbEeF": 0xdeadbeef,
		"ffffffffffffffff": math.MaxUint64, "FFFFFFFFFFFFFFFF": math.MaxUint64, "8000000000000000": 1 << 63,
		"0000000000000000": 0, "0000000000000001": 1, "fffffffffffffff": 1<<60 - 1, "123456789012345": 0x123456789012345,
	} {
		c := atFirst()
		c.Key = key
		expectSet(t, "key "+word, c)
		expectSet(t, "key 77\nkey "+word+"\n", c)
		expectReading(t, "key "+word+"\nmalloc 1\nkey g\n", reading{c, []impl.Op{malloc(1)}, []int{3}})
	}
	expectUnclear(t, "key", "key g", "key G", "key 0x1", "key x", "key -1", "key +1", "key $1", "key 1g", "key g1", "key 1 2", "key @", "key `", "key /", "key :",
		"key 00000000000000000", "key 00000000000000001", "key fffffffffffffffff", "key 10000000000000000", "key "+strings.Repeat("a", 400),
		"key \xff", "key a\xff", "key ａ", "key é", "key \x00", "key ff.", "key f,f")
}

func TestScriptDraws(t *testing.T) {
	c := atFirst()
	expectSet(t, "draws", c)
	expectSet(t, "draws \ndraws\n  draws  ", c)
	c.Draws = []int{1, -2, 3, 0, 0, 999999999}
	expectSet(t, "draws 1 -2 3 0 -0 999999999", c)
	expectSet(t, "draws 1\ndraws -2 3\n\ndraws\ndraws 0\ndraws 0 999999999\n", c)
	// A line is read whole or not at all.
	expectReading(t, "draws 1 -2\ndraws 5 6 x\ndraws 3 0\ndraws x 7\ndraws 0 999999999", reading{config: c, unclear: []int{2, 4}})
}

// plainNumbers are the words that are N, and the values they have.
var plainNumbers = map[string]uint64{
	"0": 0, "1": 1, "9": 9, "10": 10, "00": 0, "07": 7, "1016": 1016, "1017": 1017, "4294967296": 1 << 32, "1234567890": 1234567890,
	"9223372036854775807": math.MaxInt64, "9223372036854775808": 1 << 63, "9999999999999999999": 9999999999999999999,
	"10000000000000000000": 10000000000000000000, "18446744073709551614": math.MaxUint64 - 1, "18446744073709551615": math.MaxUint64,
	"00000000000000000000": 0, "00000000000000000001": 1, "01844674407370955161": 1844674407370955161, "09999999999999999999": 9999999999999999999,
}

// badNumbers are words that are not N, and not P either.
var badNumbers = []string{
	"18446744073709551616", "18446744073709551617", "18446744073709551620", "18446744073709551625", "18446744073709551626", "18446744073709551700", "18446744073709552000",
	"19000000000000000000", "20000000000000000000", "36893488147419103232", "36893488147419103233", "92233720368547758080", "99999999999999999999",
	"000000000000000000000", "000000000000000000001", "018446744073709551615", "100000000000000000000", "184467440737095516160", strings.Repeat("0", 400), strings.Repeat("9", 400),
	"-", "-0", "-1", "+1", "+0", "1+1", "1-", "1+", "0x1", "1e3", "1.0", ".", "1,0", "1_0", "a", "f", "1a", "a1", "٣", "３", "1３", "²", "½", "\x00", "\xff", "1\xff", "\xff1", "/", ":", "1/1", "1:1",
}

func TestScriptPlainNumbers(t *testing.T) {
	for word, n := range plainNumbers {
		expectOps(t, "malloc "+word, malloc(n))
		expectOps(t, "calloc "+word+" 3", calloc(n, 3))
		expectOps(t, "calloc 3 "+word, calloc(3, n))
		expectOps(t, "realloc 3 "+word, realloc(0, 3, n))
		expectOps(t, "realloc "+word+" 3", realloc(0, n, 3))
		expectOps(t, "load 3 "+word, loadAt(0, 3, n))
		expectOps(t, "load "+word+" 3", loadAt(0, n, 3))
		expectOps(t, "free "+word, free(0, n))
		expectOps(t, "usable "+word, usable(0, n))
		expectOps(t, "store "+word+" 03", storeAt(0, n, 3))
	}
	for _, word := range badNumbers {
		expectUnclear(t, "malloc "+word, "calloc "+word+" 3", "calloc 3 "+word, "realloc 3 "+word, "realloc "+word+" 3", "load 3 "+word,
			"load "+word+" 3", "free "+word, "usable "+word, "store "+word+" 03")
	}
	// What names an answer is an address and no number.
	expectUnclear(t, "malloc $1", "calloc $1 1", "calloc 1 $1", "realloc 1 $1", "load 1 $1", "load $1 $1", "store 1 $1", "key $1", "draws $1")
}

func TestScriptRefs(t *testing.T) {
	type target struct {
		ref int
		p   uint64
	}
	for word, x := range map[string]target{
		"$1": {1, 0}, "$9": {9, 0}, "$10": {10, 0}, "$99": {99, 0}, "$100": {100, 0}, "$300": {300, 0}, "$999": {999, 0},
		"$01": {1, 0}, "$001": {1, 0}, "$010": {10, 0}, "$099": {99, 0},
		"$1+0": {1, 0}, "$1-0": {1, 0}, "$1+000000000": {1, 0}, "$1-000000000": {1, 0}, "$1-00": {1, 0},
		"$1+1": {1, 1}, "$1-1": {1, math.MaxUint64}, "$12+7": {12, 7}, "$2-3": {2, math.MaxUint64 - 2}, "$2-03": {2, math.MaxUint64 - 2},
		"$001+000000001": {1, 1}, "$001-000000001": {1, math.MaxUint64}, "$999+999999999": {999, 999999999},
		"$999-999999999": {999, math.MaxUint64 - 999999998}, "$5+123456789": {5, 123456789}, "$5-1024": {5, math.MaxUint64 - 1023},
	} {
		expectOps(t, "free "+word, free(x.ref, x.p))
		expectOps(t, "usable "+word, usable(x.ref, x.p))
		expectOps(t, "realloc "+word+" 8", realloc(x.ref, x.p, 8))
		expectOps(t, "load "+word+" 8", loadAt(x.ref, x.p, 8))
		expectOps(t, "store "+word+" 08ff", storeAt(x.ref, x.p, 8, 255))
	}
	for _, word := range []string{
		"$", "$$1", "$0", "$00", "$000", "$0+1", "$00-1", "$000+0", "$0000", "$0001", "$1000", "$1234", "$1000+1", "$18446744073709551617",
		"$+", "$-", "$+1", "$-1", "$1+", "$1-", "$999+", "$1++1", "$1--1", "$1+-1", "$1-+1", "$1+1+1", "$1-1-1", "$1+1-1", "$1-1+1", "$1+1+", "$1-1-",
		"$1+1234567890", "$1-1234567890", "$1+0000000000", "$1-0000000000", "$1+0000000001", "$1+18446744073709551615",
		"$1*2", "$1x", "$x", "$a", "$1a", "$a1", "$1+a", "$1+1a", "$1-f", "$1+0x1", "$1+$1", "$1$", "$1$2", "$1+1$", "$1.", "$1,2", "$1=1", "$1 +1", "$1+ 1", "$ 1",
		"1$", "+$1", "-$1", "1+$1", "$1\x00", "$1+\x00", "$\xff", "$1\xff", "$1+\xff", "$1+1\xff", "$３", "$1+３", "$1＋1", "$1−1", "＄1", "$/", "$:", "$1+/", "$1+:",
	} {
		expectUnclear(t, "free "+word, "usable "+word, "realloc "+word+" 8", "load "+word+" 8", "store "+word+" 08")
	}
}

func TestScriptBytes(t *testing.T) {
	for word, data := range map[string]string{
		"00": "\x00", "0a": "\x0a", "0A": "\x0a", "ff": "\xff", "Ff": "\xff", "fF": "\xff", "FF": "\xff", "09": "\x09", "90": "\x90", "a0": "\xa0", "7F": "\x7f",
		"0000": "\x00\x00", "0aB1": "\x0a\xb1", "0123456789abcdefABCDEF": "\x01\x23\x45\x67\x89\xab\xcd\xef\xab\xcd\xef",
		"00112233445566778899aabbccddeeff": "\x00\x11\x22\x33\x44\x55\x66\x77\x88\x99\xaa\xbb\xcc\xdd\xee\xff",
		strings.Repeat("5a", 4096):         strings.Repeat("Z", 4096), strings.Repeat("5a", 4097): strings.Repeat("Z", 4097), strings.Repeat("5A", 9990): strings.Repeat("Z", 9990),
	} {
		expectOps(t, "store 7 "+word, storeAt(0, 7, []byte(data)...))
		expectOps(t, "store $7-1 "+word, storeAt(7, math.MaxUint64, []byte(data)...))
	}
	for b := range 256 {
		expectOps(t, fmt.Sprintf("store 7 %02x\nstore 8 %02X80", b, b), storeAt(0, 7, byte(b)), storeAt(0, 8, byte(b), 0x80))
	}
	expectUnclear(t, "store 7", "store", "store 7 0", "store 7 f", "store 7 000", "store 7 abc", "store 7 "+strings.Repeat("a", 4095), "store 7 0g", "store 7 g0", "store 7 00g0",
		"store 7 000g", "store 7 gg", "store 7 0x", "store 7 0x00", "store 7 -1", "store 7 +1", "store 7 00 00", "store 7 0 0", "store 7 0000g", "store 7 $1", "store 7 ..", "store 7 //",
		"store 7 ::", "store 7 @@", "store 7 ``", "store 7 é", "store 7 aé", "store 7 éa", "store 7 0é0", "store 7 ａ", "store 7 ａa", "store 7 \xff\xff", "store 7 0\xff", "store 7 \x000", "store 7 \"\"")
}

// Every byte in every place of a good line: only digits of the right kind are digits.
func TestScriptEachByte(t *testing.T) {
	for _, line := range []string{"heap 1 -2 3 4", "key a1", "draws 5 -6", "malloc 12", "calloc 1 2", "realloc $1+2 3", "free $12-3", "usable 45", "load 1 2", "store $1 a1"} {
		for i := range line {
			for b := range 256 {
				text := line[:i] + string([]byte{byte(b)}) + line[i+1:]
				expectReading(t, text, plainRead(text))
				text = line[:i] + string([]byte{byte(b)}) + line[i:] + "\n"
				expectReading(t, text, plainRead(text))
			}
		}
	}
}
