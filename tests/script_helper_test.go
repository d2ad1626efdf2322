package tests

import (
	"fmt"
	"math/rand/v2"
	"regexp"
	"slices"
	"strconv"
	"strings"
	"testing"

	"loop.example/g00723/impl"
)

func wantSplit(t *testing.T, line string, code int64, words ...string) {
	t.Helper()
	if got := impl.SplitWords(line); got.Code != code || !slices.Equal(got.Words, words) {
		t.Errorf("%s: got %d and %q, want the code %d and %q", shown(line), got.Code, got.Words, code, words)
	}
}

func wantNumber(t *testing.T, word string, code, value int64) {
	t.Helper()
	if got := impl.NumberOf(word); got != (impl.IntResult{Code: code, Value: value}) {
		t.Errorf("%s: got %+v, want the code %d and %d", shown(word), got, code, value)
	}
}

func wantText(t *testing.T, what string, got impl.TextResult, code int64, text string) {
	t.Helper()
	if got != (impl.TextResult{Code: code, Text: text}) {
		t.Errorf("%s: got %+v, want the code %d and %q", what, got, code, text)
	}
}

func wantOp(t *testing.T, line string, o impl.Op) {
	t.Helper()
	if got := impl.OpOf(line); got != (impl.OpResult{Op: o}) {
		t.Errorf("%s: got %+v, want %+v", shown(line), got, o)
	}
}

// wantNoOp asks that all beside the code is zero.
func wantNoOp(t *testing.T, line string, code int64) {
	t.Helper()
	if got := impl.OpOf(line); got != (impl.OpResult{Code: code}) {
		t.Errorf("%s: got %+v, want the code %d and nothing beside it", shown(line), got, code)
	}
}

// wantLine asks it both ways.
func wantLine(t *testing.T, o impl.Op, line string) {
	t.Helper()
	wantText(t, fmt.Sprintf("%+v", o), impl.OpText(o), impl.OK, line)
	wantOp(t, line, o)
}

func equalScripts(a, b impl.ScriptResult) bool {
	return a.Code == b.Code && slices.Equal(a.Ops, b.Ops) && a.Said == b.Said
}

func wantScript(t *testing.T, what string, got impl.ScriptResult, ops []impl.Op, said string) {
	t.Helper()
	if !equalScripts(got, impl.ScriptResult{Ops: ops, Said: said}) {
		t.Errorf("%s: got %+v, want %q and %+v", what, got, said, ops)
	}
}

// wantNoScript asks that all beside the code is zero.
func wantNoScript(t *testing.T, what string, got impl.ScriptResult, code int64) {
	t.Helper()
	if !equalScripts(got, impl.ScriptResult{Code: code}) {
		t.Errorf("%s: got %+v, want the code %d and nothing beside it", what, got, code)
	}
}

// shown is for what a test tells of a text, which may be very long.
func shown(text string) string {
	if len(text) > 100 {
		return fmt.Sprintf("%q and %d bytes more", text[:100], len(text)-100)
	}
	return strconv.Quote(text)
}

// padded has blanks at its end, up to so many bytes.
func padded(line string, n int) string {
	return line + strings.Repeat(" ", n-len(line))
}

// kindWords are the names of kinds, from 1 on.
var kindWords = []string{1: "new", 2: "dup", 3: "drop", 4: "get", 5: "put", 6: "load", 7: "link", 8: "same", 9: "hash", 10: "size", 11: "used"}

// lettersOf tells by letters, in order, what a line tells behind the name of a kind.
func lettersOf(kind int64) []rune {
	var letters []rune
	for _, letter := range "HIVT" {
		if isNeeded(kind, letter) {
			letters = append(letters, letter)
		}
	}
	return letters
}

func modelLine(o impl.Op) string {
	line := fmt.Sprint(o.Tenant) + " " + kindWords[o.Kind]
	for _, letter := range lettersOf(o.Kind) {
		line += fmt.Sprint(" ", *numberOf(&o, letter))
	}
	if o.Force {
		line += " now"
	}
	return line
}

// modelWords is asked of lines that are not too long.
func modelWords(line string) []string {
	return slices.DeleteFunc(strings.Split(line, " "), func(word string) bool { return word == "" })
}

var numberForm = regexp.MustCompile(`\A(0|-?[1-9][0-9]{0,9})\z`)

func modelNumber(word string) impl.IntResult {
	if !numberForm.MatchString(word) {
		return impl.IntResult{Code: impl.ErrText}
	}
	n, _ := strconv.ParseInt(word, 10, 64)
	return impl.IntResult{Value: n}
}

func modelOp(line string) impl.OpResult {
	if len(line) > 3000 {
		return impl.OpResult{Code: impl.ErrMany}
	}
	unread := impl.OpResult{Code: impl.ErrText}
	var o impl.Op
	words := modelWords(line)
	if n := len(words); n > 0 && words[n-1] == "now" {
		o.Force, words = true, words[:n-1]
	}
	if len(words) < 2 || !slices.Contains(kindWords, words[1]) {
		return unread
	}
	o.Kind = int64(slices.Index(kindWords, words[1]))
	letters := lettersOf(o.Kind)
	if len(words) != 2+len(letters) {
		return unread
	}
	numbers := slices.Concat([]string{words[0]}, words[2:])
	for i, number := range append([]*int64{&o.Tenant}, pointedAt(&o, letters)...) {
		read := modelNumber(numbers[i])
		if read.Code != 0 {
			return unread
		}
		*number = read.Value
	}
	if code := modelOpFault(o); code != 0 {
		return impl.OpResult{Code: code}
	}
	return impl.OpResult{Op: o}
}

func pointedAt(o *impl.Op, letters []rune) []*int64 {
	var list []*int64
	for _, letter := range letters {
		list = append(list, numberOf(o, letter))
	}
	return list
}

// modelNewHeap is asked of configs without a fault.
func modelNewHeap(c impl.Config) impl.Heap {
	p := plan{half: c.Half}
	for i, quota := range c.Quotas {
		p.tenants = append(p.tenants, impl.HeapTenant{Quota: quota, Slots: make([]impl.HeapSlot, c.Slots[i])})
	}
	return p.heap()
}

// modelRun has all replies and all collections of a run.
func modelRun(c impl.Config, list []impl.Op) impl.HeapResult {
	end := impl.HeapResult{Heap: modelNewHeap(c)}
	for _, o := range list {
		step := modelHeapStep(end.Heap, o)
		end.Heap = step.Heap
		end.Replies = append(end.Replies, step.Replies...)
		end.Collected = append(end.Collected, step.Collected...)
	}
	return end
}

// modelAnswer is what is said where a line asks, of what a run told.
func modelAnswer(end impl.HeapResult, question string) string {
	switch question {
	case "taken":
		return fmt.Sprint(end.Heap.Arena.Bump)
	case "held":
		return strings.Trim(fmt.Sprint(modelHeld(end.Heap)), "[]")
	case "moved":
		sum := int64(0)
		for _, n := range end.Collected {
			sum += n
		}
		return fmt.Sprint(sum)
	}
	return "yes"
}

var questions = []string{"taken", "held", "moved", "fair"}

// modelStepScript is asked of configs without a fault.
func modelStepScript(c impl.Config, list []impl.Op, line string) impl.ScriptResult {
	switch {
	case len(list) > 300:
		return impl.ScriptResult{Code: impl.ErrMany}
	case strings.Contains(line, "\n"):
		return impl.ScriptResult{Code: impl.ErrText}
	case len(line) > 3000:
		return impl.ScriptResult{Code: impl.ErrMany}
	}
	words := modelWords(line)
	if len(words) == 0 {
		return impl.ScriptResult{Ops: list}
	}
	if len(words) == 1 && slices.Contains(questions, words[0]) {
		return impl.ScriptResult{Ops: list, Said: modelAnswer(modelRun(c, list), words[0])}
	}
	next := modelOp(line)
	if next.Code != 0 {
		return impl.ScriptResult{Code: next.Code}
	}
	if len(list) == 300 {
		return impl.ScriptResult{Code: impl.ErrFull}
	}
	ops := slices.Concat(list, []impl.Op{next.Op})
	reply := modelRun(c, ops).Replies[len(list)]
	if reply.Code != 0 {
		return impl.ScriptResult{Ops: ops, Said: fmt.Sprint("no ", reply.Code)}
	}
	return impl.ScriptResult{Ops: ops, Said: fmt.Sprint("ok ", reply.Value)}
}

// linesOf are what line feeds end, and what is behind the last one of them.
func linesOf(text string) []string {
	lines := strings.Split(text, "\n")
	if lines[len(lines)-1] == "" {
		return lines[:len(lines)-1]
	}
	return lines
}

// lineByLine is a script of which each line is done by step.
func lineByLine(c impl.Config, text string, step func(c impl.Config, list []impl.Op, line string) impl.ScriptResult) impl.ScriptResult {
	var end impl.ScriptResult
	for _, line := range linesOf(text) {
		switch got := step(c, end.Ops, line); {
		case got.Code != 0:
			end.Said += fmt.Sprintf("! %d\n", got.Code)
		case got.Said != "":
			end.Ops, end.Said = got.Ops, end.Said+got.Said+"\n"
		default:
			end.Ops = got.Ops
		}
	}
	return end
}

// mangled is a line with something wrong about it, mostly.
func mangled(r *rand.Rand, line string) string {
	pieces := []string{" ", "  ", "\t", "-", "+", "0", "9", "now", " now", "now ", "x", "\xff", "\u00e9", "new", "taken", "."}
	from := r.IntN(len(line) + 1)
	to := from + r.IntN(min(3, len(line)-from+1))
	return line[:from] + pieces[r.IntN(len(pieces))] + line[to:]
}

// anyScript has lines of all kinds, of which most are ops that can be done.
func anyScript(r *rand.Rand, c impl.Config, n int) string {
	var lines []string
	h := modelNewHeap(c)
	for range n {
		o := anyHeapOp(r, h, r.IntN(7) == 0)
		if o.Tenant > 1<<40 || o.Tenant < -1<<40 {
			o.Tenant /= 1 << 40
		}
		line := modelLine(o)
		switch r.IntN(12) {
		case 0, 1:
			line = questions[r.IntN(4)]
		case 2:
			line = mangled(r, line)
		case 3:
			line = strings.ReplaceAll(line, " ", "   ") + "  "
		case 4:
			line = strings.Repeat(" ", r.IntN(3))
		}
		if read := modelOp(line); read.Code == 0 {
			h = modelHeapStep(h, read.Op).Heap
		}
		lines = append(lines, line)
	}
	text := strings.Join(lines, "\n")
	if r.IntN(2) == 0 {
		text += "\n"
	}
	return text
}
