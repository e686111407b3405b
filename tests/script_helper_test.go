package tests

import (
	"encoding/hex"
	"fmt"
	"math/big"
	"regexp"
	"slices"
	"strconv"
	"strings"
	"testing"

	"loop.example/s01868/impl"
)

// reading is what ReadScript answers.
type reading struct {
	config  impl.HeapConfig
	ops     []impl.Op
	unclear []int
}

func readingOf(text string) reading {
	c, ops, unclear := impl.ReadScript([]byte(text))
	return reading{c, ops, unclear}
}

// atFirst is the configuration of a script that sets nothing.
func atFirst() impl.HeapConfig {
	return impl.HeapConfig{Mix: 2, Fifo: 4, Large: 2, Budget: 100, Key: 1}
}

func sameConfig(a, b impl.HeapConfig) bool {
	return a.Mix == b.Mix && a.Fifo == b.Fifo && a.Large == b.Large && a.Budget == b.Budget && a.Key == b.Key && slices.Equal(a.Draws, b.Draws)
}

func sameOp(a, b impl.Op) bool {
	return a.Kind == b.Kind && a.Ref == b.Ref && a.P == b.P && a.A == b.A && a.B == b.B && slices.Equal(a.Data, b.Data)
}

func sameReading(a, b reading) bool {
	return sameConfig(a.config, b.config) && slices.EqualFunc(a.ops, b.ops, sameOp) && slices.Equal(a.unclear, b.unclear)
}

// short keeps a message readable.
func short(text string) string {
	if len(text) > 300 {
		return fmt.Sprintf("%q.. (%d bytes)", text[:300], len(text))
	}
	return fmt.Sprintf("%q", text)
}

func expectReading(t *testing.T, text string, want reading) {
	t.Helper()
	if got := readingOf(text); !sameReading(got, want) {
		t.Errorf("%s reads %v, not %v", short(text), got, want)
	}
}

// expectOps asks for a script that has these operations and nothing else.
func expectOps(t *testing.T, text string, ops ...impl.Op) {
	t.Helper()
	expectReading(t, text, reading{config: atFirst(), ops: ops})
}

// expectSet asks for a script that sets this configuration and nothing else.
func expectSet(t *testing.T, text string, c impl.HeapConfig) {
	t.Helper()
	expectReading(t, text, reading{config: c})
}

// expectUnclear asks for each line to be unclear, and to change nothing: alone, as a last
// line without an end, and between lines that are read.
func expectUnclear(t *testing.T, lines ...string) {
	t.Helper()
	for _, line := range lines {
		expectReading(t, line, reading{config: atFirst(), unclear: []int{1}})
		expectReading(t, line+"\n", reading{config: atFirst(), unclear: []int{1}})
		c := impl.HeapConfig{Mix: 5, Fifo: 6, Large: 7, Budget: 8, Key: 9, Draws: []int{3, 4}}
		expectReading(t, "heap 5 6 7 8\nkey 9\ndraws 3\nmalloc 1\n"+line+"\ndraws 4\nmalloc 2\n"+line,
			reading{config: c, ops: []impl.Op{malloc(1), malloc(2)}, unclear: []int{5, 8}})
	}
}

// expectTold asks for the lines that RunScript tells.
func expectTold(t *testing.T, text string, lines ...string) {
	t.Helper()
	want := strings.Join(lines, "\n") + "\n"
	if got := string(impl.RunScript([]byte(text))); got != want {
		t.Errorf("%s is told as\n%s, not\n%s", short(text), short(got), short(want))
	}
}

// forms is what the words behind each first word are: I integers, N numbers, P addresses,
// K the key, X bytes.
var forms = map[string]string{
	"heap": "IIII", "key": "K", "malloc": "N", "calloc": "NN", "realloc": "PN",
	"free": "P", "usable": "P", "load": "PN", "store": "PX",
}

// firsts are the first words in a fixed order, so that a random run is the same each time.
var firsts = []string{"heap", "key", "draws", "malloc", "calloc", "realloc", "free", "usable", "load", "store"}

var patterns = map[rune]*regexp.Regexp{
	'I': regexp.MustCompile(`^-?[0-9]{1,9}$`),
	'N': regexp.MustCompile(`^[0-9]{1,20}$`),
	'R': regexp.MustCompile(`^\$([0-9]{1,3})(([+-])([0-9]{1,9}))?$`),
	'K': regexp.MustCompile(`^[0-9a-fA-F]{1,16}$`),
	'X': regexp.MustCompile(`^([0-9a-fA-F]{2})+$`),
}

// value is a number of any size.
func value(digits string, base int) *big.Int {
	n, _ := new(big.Int).SetString(digits, base)
	return n
}

// formOf tells whether a word has a form.
func formOf(form rune, word string) bool {
	switch form {
	case 'N':
		return patterns['N'].MatchString(word) && value(word, 10).IsUint64()
	case 'P':
		m := patterns['R'].FindStringSubmatch(word)
		return formOf('N', word) || m != nil && value(m[1], 10).Sign() > 0
	}
	return patterns[form].MatchString(word)
}

// plainRead reads a script by patterns and numbers of any size.
func plainRead(text string) reading {
	if len(text) > 20000 {
		return reading{}
	}
	got := reading{config: atFirst()}
	for i, line := range strings.Split(text, "\n") {
		words := slices.DeleteFunc(strings.Split(line, " "), func(w string) bool { return w == "" })
		if len(words) == 0 {
			continue
		}
		form := forms[words[0]]
		if words[0] == "draws" {
			form = strings.Repeat("I", len(words)-1)
		}
		fits := slices.Contains(firsts, words[0]) && len(form) == len(words)-1
		for j := 1; fits && j < len(words); j++ {
			fits = formOf(rune(form[j-1]), words[j])
		}
		if fits {
			got.plainLine(words)
		} else {
			got.unclear = append(got.unclear, i+1)
		}
	}
	return got
}

// plainLine does what a clear line says.
func (x *reading) plainLine(words []string) {
	var ints []int
	if words[0] == "heap" || words[0] == "draws" {
		for _, word := range words[1:] {
			ints = append(ints, int(value(word, 10).Int64()))
		}
	}
	switch words[0] {
	case "heap":
		x.config.Mix, x.config.Fifo, x.config.Large, x.config.Budget = ints[0], ints[1], ints[2], ints[3]
	case "key":
		x.config.Key = value(words[1], 16).Uint64()
	case "draws":
		x.config.Draws = append(x.config.Draws, ints...)
	default:
		x.ops = append(x.ops, plainOp(words))
	}
}

func plainOp(words []string) impl.Op {
	op := impl.Op{Kind: slices.Index(firsts, words[0]) - 3}
	places := []*uint64{&op.A, &op.B}
	for i, form := range forms[words[0]] {
		word := words[i+1]
		switch form {
		case 'N':
			*places[0] = value(word, 10).Uint64()
			places = places[1:]
		case 'X':
			op.Data, _ = hex.DecodeString(word)
		case 'P':
			op.Ref, op.P = plainTarget(word)
		}
	}
	return op
}

func plainTarget(word string) (int, uint64) {
	m := patterns['R'].FindStringSubmatch(word)
	if m == nil {
		return 0, value(word, 10).Uint64()
	}
	p := new(big.Int)
	if m[2] != "" {
		p = value(m[2], 10)
	}
	p.Mod(p, new(big.Int).Lsh(big.NewInt(1), 64))
	return int(value(m[1], 10).Int64()), p.Uint64()
}

// plainTold is how a run is told.
func plainTold(x reading, r impl.HeapReport) string {
	told := ""
	for _, n := range x.unclear {
		told += fmt.Sprintf("? %d\n", n)
	}
	if !r.OK {
		return told + "? heap\n"
	}
	for i, a := range r.Answers {
		told += plainAnswer(x.ops[i].Kind, a) + "\n"
	}
	return told + fmt.Sprintf("committed %d used %d\n", r.Meta.Committed, r.Meta.Used)
}

func plainAnswer(kind int, a impl.Answer) string {
	switch {
	case a.Code != okay:
		return fmt.Sprintf("error %d", a.Code)
	case gives(kind):
		return fmt.Sprintf("at %d", a.Addr)
	case kind == impl.OpUsable:
		return fmt.Sprintf("size %d", a.Size)
	case kind == impl.OpLoad:
		return strings.TrimSuffix(fmt.Sprintf("bytes %x", a.Data), " ")
	}
	return "ok"
}

// written is a configuration as the lines of a script.
func written(c impl.HeapConfig) string {
	text := fmt.Sprintf("heap %d %d %d %d\nkey %x\ndraws", c.Mix, c.Fifo, c.Large, c.Budget, c.Key)
	for _, draw := range c.Draws {
		text += " " + strconv.Itoa(draw)
	}
	return text + "\n"
}

// writtenOp is an operation as a line.
func writtenOp(op impl.Op) string {
	line := firsts[op.Kind+3]
	values := []uint64{op.A, op.B}
	for _, form := range forms[line] {
		switch form {
		case 'N':
			line += fmt.Sprintf(" %d", values[0])
			values = values[1:]
		case 'X':
			line += fmt.Sprintf(" %x", op.Data)
		case 'P':
			line += " " + writtenTarget(op)
		}
	}
	return line + "\n"
}

func writtenTarget(op impl.Op) string {
	switch {
	case op.Ref == 0:
		return strconv.FormatUint(op.P, 10)
	case op.P == 0:
		return fmt.Sprintf("$%d", op.Ref)
	}
	return fmt.Sprintf("$%d%+d", op.Ref, int64(op.P))
}
