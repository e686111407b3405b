package tests

import (
	"bytes"
	"fmt"
	"slices"
	"strings"
	"testing"

	"loop.example/s01868/impl"
)

// someDigits are as many digits, of a kind.
func someDigits(r *numbers, n int, digits string) string {
	word := ""
	for range n {
		word += string(digits[r.below(len(digits))])
	}
	return word
}

const (
	tens     = "0123456789"
	sixteens = "0123456789abcdefABCDEF"
)

// someWord has the form, but for a length or a value that may be one too great.
func someWord(r *numbers, form rune) string {
	switch form {
	case 'I':
		return one(r, "", "", "-") + someDigits(r, one(r, 1, 2, 8, 9, 10), tens)
	case 'N':
		return one(r, someDigits(r, 1+r.below(4), tens), someDigits(r, 19+r.below(3), tens), someDigits(r, 20, "01"), fmt.Sprint("184467440737095516", 10+r.below(12)))
	case 'K':
		return someDigits(r, one(r, 1, 2, 15, 16, 17), sixteens)
	case 'X':
		return someDigits(r, one(r, 1, 2, 2, 4, 7, 16, 40), sixteens)
	}
	if r.below(3) == 0 {
		return someWord(r, 'N')
	}
	word := "$" + someDigits(r, one(r, 1, 1, 2, 3, 4), tens)
	if r.below(2) == 0 {
		word += one(r, "+", "-") + someDigits(r, one(r, 0, 1, 1, 2, 4, 9, 10), tens)
	}
	return word
}

// someLine is a line that is mostly clear, or nearly so, with spaces where they may be.
func someLine(r *numbers) string {
	first := one(r, firsts...)
	form := forms[first]
	if first == "draws" {
		form = strings.Repeat("I", r.below(6))
	}
	words := []string{first}
	for _, x := range form {
		words = append(words, someWord(r, x))
	}
	switch r.below(12) {
	case 0:
		words = append(words, someWord(r, one(r, 'I', 'N', 'P', 'K', 'X')))
	case 1:
		words = words[:len(words)-1]
	case 2:
		words[r.below(len(words))] = one(r, someWord(r, one(r, 'I', 'N', 'P', 'K', 'X')), one(r, firsts...))
	case 3:
		return one(r, "", " ", "   ")
	}
	line := ""
	for _, word := range words {
		line += strings.Repeat(" ", one(r, 0, 0, 0, 1, 3)) + word + " "
	}
	if r.below(3) > 0 {
		line = strings.TrimRight(line, " ")
	}
	if r.below(10) == 0 && len(line) > 0 {
		line = spoilt(r, line)
	}
	return line
}

// spoilt has one byte changed, put in or left out.
func spoilt(r *numbers, line string) string {
	at, end := r.below(len(line)), r.below(2)
	b := one(r, "$", "+", "-", " ", "0", "9", "a", "F", "g", "G", "\t", "\r", "\xff", "é", string([]byte{byte(r.below(256))}))
	if r.below(4) == 0 {
		b = ""
	}
	return line[:at] + b + line[at+end:]
}

func someScript(r *numbers) string {
	var lines []string
	for range one(r, 1, 5, 40, 200) {
		lines = append(lines, someLine(r))
	}
	return strings.Join(lines, "\n") + one(r, "", "\n", "\n\n")
}

func TestScriptsAgainstThePlainReader(t *testing.T) {
	r := &numbers{51}
	ops, unclear := 0, 0
	for range 4000 {
		text := someScript(r)
		want := plainRead(text)
		if got := readingOf(text); !sameReading(got, want) {
			t.Fatalf("%q reads\n%v, not\n%v", text, got, want)
		}
		if !slices.IsSorted(want.unclear) {
			t.Fatalf("%v", want.unclear)
		}
		ops, unclear = ops+len(want.ops), unclear+len(want.unclear)
	}
	if ops < 50000 || unclear < 50000 {
		t.Errorf("only %d operations and %d unclear lines", ops, unclear)
	}
}

// Unclear lines put in anywhere change nothing else that is read.
func TestScriptUnclearLinesChangeNothing(t *testing.T) {
	r := &numbers{52}
	for range 500 {
		var lines, more []string
		var unclear []int
		for range r.below(60) {
			line := someLine(r)
			x := plainRead(line)
			more = append(more, line)
			if len(x.unclear) > 0 {
				unclear = append(unclear, len(more))
			} else {
				lines = append(lines, line)
			}
		}
		want := readingOf(strings.Join(lines, "\n"))
		if len(want.unclear) > 0 {
			t.Fatalf("%q: unclear lines %v", lines, want.unclear)
		}
		want.unclear = unclear
		if got := readingOf(strings.Join(more, "\n")); !sameReading(got, want) {
			t.Fatalf("%q reads\n%v, not\n%v", more, got, want)
		}
	}
}

// Promise 15, over scripts of all kinds of lines.
func TestRunScriptTellsTheRun(t *testing.T) {
	r := &numbers{53}
	ran, refused := 0, 0
	for range 1500 {
		text := someScript(r)
		if r.below(4) > 0 {
			text += "\n" + written(someShape(r))
		}
		x := readingOf(text)
		report := impl.RunHeap(x.config, x.ops)
		if report.OK {
			ran++
		} else {
			refused++
		}
		want := plainTold(x, report)
		if len(text) > impl.MaxScript {
			want = "? script\n"
		}
		if got := string(impl.RunScript([]byte(text))); got != want {
			t.Fatalf("%q is told as\n%q, not\n%q", text, got, want)
		}
	}
	if ran < 500 || refused < 100 {
		t.Errorf("only %d scripts ran and %d were refused", ran, refused)
	}
}

// canBeWritten tells whether there is a line for the operation.
func canBeWritten(op impl.Op) bool {
	far := int64(op.P)
	return op.Kind >= 0 && op.Kind <= 6 && op.Ref >= 0 && (op.Ref == 0 || far > -1e9 && far < 1e9) && (op.Kind != impl.OpStore || len(op.Data) > 0)
}

// play is a script of a random client, what it reads, and what the plain heap does with it.
func play(r *numbers) (string, reading, impl.HeapReport) {
	c, w := someShape(r), someTaste(r)
	c.Draws = slices.DeleteFunc(c.Draws, func(x int) bool { return x < -999999999 || x > 999999999 })
	h, x := newPlainHeap(c), reading{config: c}
	text := written(c)
	for range one(r, r.below(30), r.below(301), 300) {
		op := h.someOp(r, w)
		if !canBeWritten(op) {
			continue
		}
		line := writtenOp(op)
		if len(text)+len(line) > impl.MaxScript {
			break
		}
		text += line
		// A line has only what its kind asks for: no P behind a malloc, say.
		op = plainRead(line).ops[0]
		x.ops = append(x.ops, op)
		h.run(op)
	}
	return text, x, h.report()
}

func TestRunScriptAgainstThePlainHeap(t *testing.T) {
	r := &numbers{54}
	answers := map[string]int{}
	for range 400 {
		text, x, report := play(r)
		if got := readingOf(text); !sameReading(got, x) {
			t.Fatalf("%q reads\n%v, not\n%v", text, got, x)
		}
		got, want := string(impl.RunScript([]byte(text))), plainTold(x, report)
		if got != want {
			t.Fatalf("%q is told as\n%q, not\n%q", text, got, want)
		}
		for i, line := range strings.Split(got, "\n")[:len(x.ops)] {
			first, rest, _ := strings.Cut(line, " ")
			if first == "error" || first == "bytes" && rest == "" {
				first = line
			}
			answers[fmt.Sprint(firsts[x.ops[i].Kind+3], ": ", first)]++
		}
	}
	for _, kind := range []string{
		"malloc: at", "calloc: at", "realloc: at", "free: ok", "store: ok", "usable: size", "load: bytes ", "load: bytes", "malloc: error 1", "calloc: error 1", "realloc: error 1",
		"load: error 2", "store: error 2", "free: error 3", "free: error 4", "free: error 5", "realloc: error 5", "usable: error 3", "load: error 6", "store: error 6",
	} {
		if answers[strings.TrimRight(kind, " ")] == 0 {
			t.Errorf("no answer %q in %v", kind, answers)
		}
	}
}

// Whatever the bytes are, both calls end and answer lines.
func TestScriptsOfAnyBytes(t *testing.T) {
	r := &numbers{55}
	for range 3000 {
		text := someBytes(r, one(r, r.below(20), r.below(300), r.below(3000)))
		if r.below(2) == 0 {
			text = []byte("\n" + someScript(r))
			for range r.below(30) {
				text[r.below(len(text))] = byte(r.below(256))
			}
		}
		if r.below(20) == 0 {
			text = append(text, someBytes(r, impl.MaxScript-r.below(50))...)
		}
		x := readingOf(string(text))
		if want := plainRead(string(text)); !sameReading(x, want) {
			t.Fatalf("%q reads\n%v, not\n%v", text, x, want)
		}
		told := impl.RunScript(text)
		if len(told) == 0 || told[len(told)-1] != '\n' || bytes.Contains(told, []byte("\n\n")) || bytes.Contains(told, []byte(" \n")) {
			t.Fatalf("%q is told as %q", text, told)
		}
	}
}

// crowded is a script that leaves something in each list of what is read.
const crowded = "x\nheap 1 2 3 40\ndraws 4 5 6\nkey ff\nmalloc 100\nstore $1 0102030405\nstore $1+9 0a0b0c\ny z\ndraws 7\nload $1 14\nload $1 14\nstore 1024 ff\nusable $1\nfree $1\nfree $1\nmalloc"

func copiedReading(x reading) reading {
	x.config.Draws = slices.Clone(x.config.Draws)
	return reading{x.config, copiedOps(x.ops), slices.Clone(x.unclear)}
}

func TestScriptTextIsNotChangedAndNotKept(t *testing.T) {
	for _, script := range []string{crowded, crowded + "\n", "malloc 1", "x", "", strings.Repeat("x", impl.MaxScript+1)} {
		// Room behind the text, which no call may write to.
		text := append([]byte(script), "malloc 7\n"...)[:len(script)]
		c, ops, unclear := impl.ReadScript(text)
		x := reading{c, ops, unclear}
		read := copiedReading(x)
		told := impl.RunScript(text)
		lines := bytes.Clone(told)
		if string(text) != script || string(text[:len(script)+9]) != script+"malloc 7\n" {
			t.Errorf("%s was changed to %s", short(script), short(string(text)))
		}
		for i := range text {
			text[i] = '7'
		}
		if !sameReading(x, read) || !bytes.Equal(told, lines) {
			t.Errorf("what %s gives hangs on the text later", short(script))
		}
	}
}

func listsRead(x reading) []list {
	all := []list{listed("Draws", x.config.Draws, -5), listed("unclear", x.unclear, -5)}
	for i, op := range x.ops {
		all = append(all, listed(fmt.Sprint("Data ", i), op.Data, 0xee))
	}
	return all
}

func TestScriptListsShareNoMemory(t *testing.T) {
	if x := readingOf(crowded); len(x.config.Draws) != 4 || len(x.unclear) != 3 || len(x.ops) != 9 || len(x.ops[1].Data) != 5 || len(x.ops[2].Data) != 3 {
		t.Fatalf("%v", x)
	}
	expectOwnMemory(t, func() []list { return listsRead(readingOf(crowded)) })
}

func TestScriptKeptAnswersStay(t *testing.T) {
	x, told := readingOf(crowded), impl.RunScript([]byte(crowded))
	read, lines := copiedReading(x), bytes.Clone(told)
	r := &numbers{56}
	for range 50 {
		other := []byte(someScript(r))
		impl.ReadScript(other)
		impl.RunScript(other)
	}
	again, toldAgain := readingOf(crowded), impl.RunScript([]byte(crowded))
	if !sameReading(x, read) || !bytes.Equal(told, lines) || !sameReading(again, read) || !bytes.Equal(toldAgain, lines) {
		t.Errorf("a kept answer is another behind later calls")
	}
	for _, l := range listsRead(again) {
		l.spoil()
	}
	for i := range again.ops {
		again.ops[i] = impl.Op{Kind: -5}
	}
	listed("told", toldAgain, 0xee).spoil()
	if !sameReading(x, read) || !bytes.Equal(told, lines) || !sameReading(readingOf(crowded), read) || !bytes.Equal(impl.RunScript([]byte(crowded)), lines) {
		t.Errorf("two answers share memory")
	}
	// A text that is too long and one of nothing have answers of their own, too.
	for _, text := range []string{strings.Repeat(" ", impl.MaxScript+1), "", "heap 0 0 0 0"} {
		first := impl.RunScript([]byte(text))
		kept := bytes.Clone(first)
		listed("told", impl.RunScript([]byte(text)), 0xee).spoil()
		if !bytes.Equal(first, kept) || !bytes.Equal(impl.RunScript([]byte(text)), kept) {
			t.Errorf("two answers to %s share memory", short(text))
		}
	}
}

func TestScriptsAtOnce(t *testing.T) {
	want := string(impl.RunScript([]byte(crowded)))
	text := []byte(crowded)
	got := make(chan string)
	for range 8 {
		go func() { got <- string(impl.RunScript(text)) }()
	}
	for range 8 {
		if told := <-got; told != want {
			t.Errorf("%q, not %q", told, want)
		}
	}
}
