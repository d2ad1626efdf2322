package tests

import (
	"fmt"
	"math"
	"math/rand/v2"
	"slices"
	"strconv"
	"strings"
	"testing"
	"unsafe"

	"loop.example/g00723/impl"
)

func TestScriptConstants(t *testing.T) {
	if impl.MaxScript != 3000 || impl.MaxLines != 60 {
		t.Errorf("got %d and %d", impl.MaxScript, impl.MaxLines)
	}
}

func TestSplitWords(t *testing.T) {
	cases := []struct {
		line  string
		words []string
	}{
		{"", nil},
		{" ", nil},
		{"     ", nil},
		{"a", []string{"a"}},
		{" a", []string{"a"}},
		{"a ", []string{"a"}},
		{"   a   ", []string{"a"}},
		{" a  b ", []string{"a", "b"}},
		{"a b", []string{"a", "b"}},
		{"ab cd  ef   gh", []string{"ab", "cd", "ef", "gh"}},
		{"a a a", []string{"a", "a", "a"}},
		{"\t", []string{"\t"}},
		{"a\tb c", []string{"a\tb", "c"}},
		{" \t ", []string{"\t"}},
		{"a\nb\n", []string{"a\nb\n"}},
		{"a \n b", []string{"a", "\n", "b"}},
		{"a\rb\vc\fd", []string{"a\rb\vc\fd"}},
		{"\x00 \x00", []string{"\x00", "\x00"}},
		{"\u00e9 \u4e16\u754c \U0001f600", []string{"\u00e9", "\u4e16\u754c", "\U0001f600"}},
		{"a\u00a0b\u2003c\u3000d", []string{"a\u00a0b\u2003c\u3000d"}}, // blanks, but not the byte 32
		{"a\u0120b\u2020c", []string{"a\u0120b\u2020c"}},               // runes that end as a blank does
		{"\xff", []string{"\xff"}},
		{"\xff \xfe", []string{"\xff", "\xfe"}},
		{"a\x80 \x80b", []string{"a\x80", "\x80b"}},
		{"\xe4\xb8 b", []string{"\xe4\xb8", "b"}}, // a rune that breaks off
		{"\xc3 \xa9", []string{"\xc3", "\xa9"}},
		{"a\xf0\x9f\x98", []string{"a\xf0\x9f\x98"}},
		{"\xed\xa0\x80 \xc0\xa0", []string{"\xed\xa0\x80", "\xc0\xa0"}},
		{"\ufffd", []string{"\ufffd"}},
		{"0 new 2 1 now", []string{"0", "new", "2", "1", "now"}},
	}
	for _, c := range cases {
		wantSplit(t, c.line, impl.OK, c.words...)
	}
}

// visitTexts visits all texts of these pieces, up to so many of them.
func visitTexts(pieces []string, most int, visit func(text string)) {
	texts := []string{""}
	for range most + 1 {
		var longer []string
		for _, text := range texts {
			visit(text)
			for _, piece := range pieces {
				longer = append(longer, text+piece)
			}
		}
		texts = longer
	}
}

func TestSplitWordsOfShortLines(t *testing.T) {
	visitTexts([]string{" ", "a", "\t", "\n", "\xc3", "\xa9", "\u4e16"}, 5, func(line string) {
		wantSplit(t, line, impl.OK, modelWords(line)...)
	})
	for b := range 256 {
		line := "a" + string([]byte{byte(b)}) + "b c"
		wantSplit(t, line, impl.OK, modelWords(line)...)
	}
}

// TestSplitWordsOfLongLines counts bytes, of which a rune may have several.
func TestSplitWordsOfLongLines(t *testing.T) {
	for _, piece := range []string{" ", "a", "a ", " a", "\u4e16", "\u4e16 ", "\xff", "\n", "12 ", "       b"} {
		for _, n := range []int{2999, 3000, 3001, 3002, 6000, 1000000} {
			line := strings.Repeat(piece, n/len(piece)+1)[:n]
			if n <= 3000 {
				wantSplit(t, line, impl.OK, modelWords(line)...)
				continue
			}
			wantSplit(t, line, impl.ErrMany)
		}
	}
	wantSplit(t, strings.Repeat("\u4e16", 1000), impl.OK, strings.Repeat("\u4e16", 1000))
	wantSplit(t, strings.Repeat("\u4e16", 1001), impl.ErrMany)
}

func TestNumberOf(t *testing.T) {
	for word, value := range map[string]int64{
		"0": 0, "1": 1, "-1": -1, "9": 9, "-9": -9, "10": 10, "-12": -12, "100": 100, "-100": -100, "32": 32,
		"1000000000": 1000000000, "-1000000000": -1000000000, "9999999999": 9999999999, "-9999999999": -9999999999,
		"1234567890": 1234567890, "-9876543210": -9876543210, "4294967296": 4294967296, "2147483648": 2147483648,
	} {
		wantNumber(t, word, impl.OK, value)
	}
	for _, word := range []string{
		"", "-", "+", "--", "-0", "+0", "+1", "--1", "-+1", "+-1", "1-", "1+", "-1-", "1-1",
		"00", "01", "-00", "-01", "000", "0000000000", "00000000000", "0000000001", "-0000000001", "00-1", "0-1",
		"10000000000", "-10000000000", "99999999999", "-99999999999", "09999999999",
		"9223372036854775807", "-9223372036854775808", "9223372036854775808", "18446744073709551616", "18446744073709551617",
		" 1", "1 ", " ", "1 2", "- 1", "1\t", "\t1", "1\n", "\n", "1\r", "1\x00", "\x00",
		"a", "1a", "a1", "1a1", "x", "0x1", "0b1", "1e3", "1.0", "1.", ".1", "1_0", "1,0", "1/", "1:", "0/", "/", ":",
		"\u0661", "\uff11", "1\u0662", "\u00bd", "\u00b2", "\u2212" + "1", "\u0131", "1\u0131", "\u2030", "1\xff", "\xff", "\xb1", "-\xb1", "1\xe2\x82",
		"now", "new", "-now", "one", "NaN", "inf",
	} {
		wantNumber(t, word, impl.ErrText, 0)
	}
	for _, digit := range []string{"0", "1", "9", "-", " ", "\u0661"} {
		for _, n := range []int{10, 11, 12, 19, 20, 21, 64, 3000, 3001, 100000} {
			if digit == "0" || digit == "-" || digit == " " || digit == "\u0661" || n > 10 {
				wantNumber(t, strings.Repeat(digit, n), impl.ErrText, 0)
				wantNumber(t, "-"+strings.Repeat(digit, n), impl.ErrText, 0)
			}
		}
	}
}

func TestNumberOfShortWords(t *testing.T) {
	visitTexts([]string{"-", "0", "1", "9", "+", " ", "a", "\xb1"}, 5, func(word string) {
		want := modelNumber(word)
		wantNumber(t, word, want.Code, want.Value)
	})
}

// TestEachByteInANumber has each byte at each place of a number, put in or instead of what is there.
func TestEachByteInANumber(t *testing.T) {
	for _, word := range []string{"", "0", "7", "-7", "-208", "123456789", "-123456789", "9876543210", "-9876543210"} {
		for at := range len(word) + 1 {
			for b := range 256 {
				piece := string([]byte{byte(b)})
				more := word[:at] + piece + word[at:]
				want := modelNumber(more)
				wantNumber(t, more, want.Code, want.Value)
				if at < len(word) {
					other := word[:at] + piece + word[at+1:]
					want := modelNumber(other)
					wantNumber(t, other, want.Code, want.Value)
				}
			}
		}
	}
}

// TestNumbersAreToldBackByTheirTexts has numbers of each number of digits, at its ends and between.
func TestNumbersAreToldBackByTheirTexts(t *testing.T) {
	r := rand.New(rand.NewPCG(20, 1))
	check := func(n int64) {
		code, value := int64(impl.OK), n
		if n < -9999999999 || n > 9999999999 {
			code, value = impl.ErrText, 0
		}
		wantNumber(t, strconv.FormatInt(n, 10), code, value)
	}
	for power := int64(1); power <= 100000000000000000; power *= 10 {
		for _, n := range []int64{power - 1, power, power + 1, 10*power - 1, 5 * power, power + r.Int64N(9*power)} {
			check(n)
			check(-n)
		}
	}
	for n := int64(-3000); n <= 3000; n++ {
		check(n)
	}
	for _, n := range strange {
		check(n)
	}
}

// lineCase is an op and its line, written by hand.
type lineCase struct {
	op   impl.Op
	line string
}

func lineCases() []lineCase {
	const most, word = 9999999999, 1000000000
	return []lineCase{
		{impl.Op{Kind: impl.OpNew}, "0 new 0 0"},
		{impl.Op{Kind: impl.OpNew, Index: 2, Value: 1}, "0 new 2 1"},
		{impl.Op{Tenant: 3, Kind: impl.OpNew, Index: 12, Value: 4095}, "3 new 12 4095"},
		{impl.Op{Tenant: -most, Kind: impl.OpNew, Index: 3, Value: 7}, "-9999999999 new 3 7"},
		{impl.Op{Tenant: 1, Kind: impl.OpDup, Handle: 33}, "1 dup 33"},
		{impl.Op{Tenant: most, Kind: impl.OpDup, Handle: -most}, "9999999999 dup -9999999999"},
		{impl.Op{Tenant: 2, Kind: impl.OpDrop, Handle: 34}, "2 drop 34"},
		{impl.Op{Tenant: -1, Kind: impl.OpDrop, Handle: most}, "-1 drop 9999999999"},
		{impl.Op{Kind: impl.OpGet, Handle: 32, Index: 1}, "0 get 32 1"},
		{impl.Op{Kind: impl.OpGet, Handle: -32, Index: 11}, "0 get -32 11"},
		{impl.Op{Kind: impl.OpPut, Handle: 32, Index: 1, Value: -7}, "0 put 32 1 -7"},
		{impl.Op{Tenant: most, Kind: impl.OpPut, Handle: most, Index: 11, Value: word}, "9999999999 put 9999999999 11 1000000000"},
		{impl.Op{Tenant: -most, Kind: impl.OpPut, Handle: -most, Value: -word}, "-9999999999 put -9999999999 0 -1000000000"},
		{impl.Op{Kind: impl.OpLoad, Handle: 32}, "0 load 32 0"},
		{impl.Op{Kind: impl.OpLoad, Handle: 1, Index: 10}, "0 load 1 10"},
		{impl.Op{Kind: impl.OpLink, Handle: 32, Index: 1, To: 36}, "0 link 32 1 36"},
		{impl.Op{Kind: impl.OpLink}, "0 link 0 0 0"},
		{impl.Op{Kind: impl.OpLink, Handle: -most, To: most, Index: 11}, "0 link -9999999999 11 9999999999"},
		{impl.Op{Kind: impl.OpLink, Handle: most, To: -most, Index: 5}, "0 link 9999999999 5 -9999999999"},
		{impl.Op{Kind: impl.OpSame, Handle: 32, To: 36}, "0 same 32 36"},
		{impl.Op{Kind: impl.OpSame, Handle: -most, To: most}, "0 same -9999999999 9999999999"},
		{impl.Op{Tenant: 1, Kind: impl.OpHash, Handle: 65}, "1 hash 65"},
		{impl.Op{Tenant: 1, Kind: impl.OpSize, Handle: 37}, "1 size 37"},
		{impl.Op{Tenant: 4, Kind: impl.OpSize, Handle: -1}, "4 size -1"},
		{impl.Op{Kind: impl.OpUsed}, "0 used"},
		{impl.Op{Tenant: -10, Kind: impl.OpUsed}, "-10 used"},
		{impl.Op{Tenant: most, Kind: impl.OpUsed}, "9999999999 used"},
	}
}

func TestLinesOfOps(t *testing.T) {
	kinds := map[int64]bool{}
	for _, c := range lineCases() {
		kinds[c.op.Kind] = true
		wantLine(t, c.op, c.line)
		c.op.Force = true
		wantLine(t, c.op, c.line+" now")
	}
	if len(kinds) != 11 {
		t.Errorf("there are cases of %d kinds", len(kinds))
	}
}

// visitBounds visits ops of all kinds, of which each number is one of a few, up to its bounds.
func visitBounds(visit func(o impl.Op)) {
	few := map[rune][]int64{
		'H': {-9999999999, -1, 0, 33, 9999999999}, 'T': {-9999999999, 0, 36, 9999999999},
		'I': {0, 1, 11, 12}, 'V': {-1000000000, -1, 0, 1, 4095, 1000000000},
	}
	for kind := int64(1); kind <= 11; kind++ {
		ops := []impl.Op{}
		for _, tenant := range []int64{-9999999999, -1, 0, 3, 9999999999} {
			ops = append(ops, impl.Op{Tenant: tenant, Kind: kind}, impl.Op{Tenant: tenant, Kind: kind, Force: true})
		}
		for _, letter := range lettersOf(kind) {
			var more []impl.Op
			for _, o := range ops {
				for _, n := range few[letter] {
					*numberOf(&o, letter) = n
					more = append(more, o)
				}
			}
			ops = more
		}
		for _, o := range ops {
			visit(o)
		}
	}
}

func TestOpsAreReadBackFromTheirLines(t *testing.T) {
	right := 0
	visitBounds(func(o impl.Op) {
		line := modelLine(o)
		if code := modelOpFault(o); code != impl.OK {
			wantText(t, fmt.Sprintf("%+v", o), impl.OpText(o), code, "")
			wantNoOp(t, line, code)
			return
		}
		right++
		wantLine(t, o, line)
	})
	if right < 2000 {
		t.Errorf("%d ops have no fault", right)
	}
	r := rand.New(rand.NewPCG(20, 2))
	number := func() int64 { return (r.Int64N(19999999999) - 9999999999) >> r.IntN(33) }
	for range 5000 {
		o := impl.Op{Tenant: number(), Kind: 1 + r.Int64N(11), Force: r.IntN(2) == 0}
		for _, letter := range lettersOf(o.Kind) {
			n := number()
			if letter == 'I' {
				n = r.Int64N(12)
			}
			if letter == 'V' {
				n = r.Int64N(1 << o.Index)
			}
			*numberOf(&o, letter) = n
		}
		wantLine(t, o, modelLine(o))
	}
}

// TestOpsWithoutALine has each code of OpText, and an OpFault beside a number out of range.
func TestOpsWithoutALine(t *testing.T) {
	refuse := func(o impl.Op, code int64) {
		t.Helper()
		wantText(t, fmt.Sprintf("%+v", o), impl.OpText(o), code, "")
	}
	beyond := []int64{10000000000, -10000000000, 99999999999, 1 << 40, math.MaxInt64, math.MinInt64, math.MinInt64 + 1}
	for _, c := range lineCases() {
		for _, n := range beyond {
			o := c.op
			o.Tenant = n
			refuse(o, impl.ErrRange)
			o.Kind = 12
			refuse(o, impl.ErrForm)
			for _, letter := range "HTIV" {
				o := c.op
				*numberOf(&o, letter) = n
				if isNeeded(o.Kind, letter) {
					refuse(o, impl.ErrRange)
					continue
				}
				refuse(o, impl.ErrForm)
				o.Tenant = n
				refuse(o, impl.ErrForm)
				o.Tenant, *numberOf(&o, letter) = n, 1
				refuse(o, impl.ErrForm)
			}
		}
	}
	for _, kind := range append([]int64{12, 13, 255, 256, 257}, strange...) {
		if !isFrom(kind, 1, 11) {
			refuse(impl.Op{Kind: kind}, impl.ErrForm)
			refuse(impl.Op{Kind: kind, Force: true, Tenant: 1 << 40, Handle: 1 << 40, To: 1 << 40}, impl.ErrForm)
		}
	}
	refuse(impl.Op{}, impl.ErrForm)
	refuse(impl.Op{Kind: impl.OpNew, Index: 1, Value: 2}, impl.ErrRange)
	refuse(impl.Op{Kind: impl.OpNew, Index: 13}, impl.ErrRange)
	refuse(impl.Op{Kind: impl.OpNew, Index: 64, Value: 1}, impl.ErrRange)
	refuse(impl.Op{Kind: impl.OpNew, Index: -1}, impl.ErrRange)
	refuse(impl.Op{Kind: impl.OpGet, Index: 12}, impl.ErrRange)
	refuse(impl.Op{Kind: impl.OpLink, Index: -1}, impl.ErrRange)
	refuse(impl.Op{Kind: impl.OpPut, Value: 1000000001}, impl.ErrRange)
	refuse(impl.Op{Kind: impl.OpPut, Value: -1000000001}, impl.ErrRange)
}

// TestBlanksInLines has blanks ahead, at the end, and several between words.
func TestBlanksInLines(t *testing.T) {
	for _, c := range lineCases() {
		for _, line := range []string{c.line, c.line + " now"} {
			o := c.op
			o.Force = line != c.line
			wide := strings.ReplaceAll(line, " ", "    ")
			for _, text := range []string{" " + line, line + " ", "   " + line + "   ", wide, "  " + wide + " ", padded(line, 3000), padded(wide, 3000)} {
				wantOp(t, text, o)
			}
			wantOp(t, strings.Repeat(" ", 3000-len(line))+line, o)
			wantNoOp(t, padded(line, 3001), impl.ErrMany)
			wantNoOp(t, strings.Repeat(" ", 3001-len(line))+line, impl.ErrMany)
			for _, text := range []string{
				strings.ReplaceAll(line, " ", "\t"), strings.Replace(line, " ", "\t", 1), strings.ReplaceAll(line, " ", "\u00a0"), strings.ReplaceAll(line, " ", ""),
				"\t" + line, line + "\t", line + "\n", "\n" + line, strings.Replace(line, " ", "\n", 1), strings.Replace(line, " ", " \n ", 1),
				line + "\r", line + "\x00", line + "\xff", "\xff" + line, "\ufeff" + line, line + " \xff", line + "\u00e9", line + ".", line + " .",
			} {
				wantNoOp(t, text, impl.ErrText)
			}
		}
	}
}

func TestLinesThatAreNoOps(t *testing.T) {
	for _, line := range []string{
		"", " ", "    ", "0", "now", "used", "new", "new 2 1", "used 0", "0 now", "now 0", "now now", "0 0", "0 1 2 1", "used used", "0 0 used", "0 used used",
		"x used", "-0 used", "00 used", "01 used", "+1 used", "- used", "10000000000 used", "-10000000000 used", "1.0 used", "0x0 used", "now used", "used used now",
		"taken", "held", "moved", "fair", "0 taken", "0 held", "0 moved", "0 fair", "taken now", "0 used taken", "0  0 used",
		"0 foo", "0 foo 1", "0 foo now", "0 12", "0 1 2 1", "0 11", "0 -1", "\"0\" used", "0,used", "0 \"used\"", "0 used;", "# 0 used", "0 used # 1",
		"0 new 2 1;0 used", "0 link 32 1 36 0", "0 new 0 2 1 0", "0 new 2,1", "0 new 2 x", "0 new x 1", "0 new 02 1", "0 new 2 01", "0 new 2 -0", "0 new +2 1",
		"0 get 32 1\xff", "0 get 32 \u0661", "0 put 32 1 1e3", "0 put 32 1 10000000000", "0 put 32 1 -10000000000", "0 dup 10000000000", "0 same 32 10000000000",
	} {
		wantNoOp(t, line, impl.ErrText)
	}
}

// TestNamesOfKinds has names in capitals, in part, with something more, and of no kind.
func TestNamesOfKinds(t *testing.T) {
	for kind := int64(1); kind <= 11; kind++ {
		line, name := modelLine(impl.Op{Kind: kind}), kindWords[kind]
		wantOp(t, line, impl.Op{Kind: kind})
		for _, other := range []string{
			strings.ToUpper(name), strings.ToUpper(name[:1]) + name[1:], name[:1], name[:len(name)-1], name[1:], name + "s", "op" + name, "Op" + name,
			name + name, name + "\u00e9", name + "\xff", name + "\x00", fmt.Sprint(kind), "", "now", "nil", "0", "OpNew", "\ufffd", "taken",
		} {
			wantNoOp(t, strings.Replace(line, name, other, 1), impl.ErrText)
			wantNoOp(t, strings.Replace(line, name, other, 1)+" now", impl.ErrText)
		}
		for other := int64(1); other <= 11; other++ {
			want := modelOp(strings.Replace(line, name, kindWords[other], 1))
			if got := impl.OpOf(strings.Replace(line, name, kindWords[other], 1)); got != want {
				t.Errorf("the name of %s as that of %s: got %+v, want %+v", kindWords[other], name, got, want)
			}
		}
	}
}

// TestHowManyNumbersALineHas has each kind with 0 to 6 numbers, and the word now behind them.
func TestHowManyNumbersALineHas(t *testing.T) {
	needs := map[int64]int{1: 2, 2: 1, 3: 1, 4: 2, 5: 3, 6: 2, 7: 3, 8: 2, 9: 1, 10: 1, 11: 0}
	for kind := int64(1); kind <= 11; kind++ {
		for n := range 7 {
			line := "5 " + kindWords[kind] + strings.Repeat(" 0", n)
			if n == needs[kind] {
				wantOp(t, line, impl.Op{Tenant: 5, Kind: kind})
				wantOp(t, line+" now", impl.Op{Tenant: 5, Kind: kind, Force: true})
				continue
			}
			wantNoOp(t, line, impl.ErrText)
			wantNoOp(t, line+" now", impl.ErrText)
			wantNoOp(t, line+" now now", impl.ErrText)
		}
	}
}

// TestNowInLines has the word now at each place of a line, and instead of each word.
func TestNowInLines(t *testing.T) {
	for _, c := range lineCases() {
		words := strings.Split(c.line, " ")
		forced := c.op
		forced.Force = true
		for _, now := range []string{"now", "now now", "Now", "NOW", "no", "nows", "now,", "'now'", "force", "true", "now\t", "n ow"} {
			for at := range len(words) + 1 {
				line := strings.Join(slices.Insert(slices.Clone(words), at, now), " ")
				if now == "now" && at == len(words) {
					wantOp(t, line, forced)
					continue
				}
				wantNoOp(t, line, impl.ErrText)
				wantNoOp(t, line+" now", impl.ErrText)
			}
			for at := range words {
				instead := slices.Clone(words)
				instead[at] = now
				wantNoOp(t, strings.Join(instead, " "), impl.ErrText)
				wantNoOp(t, strings.Join(instead, " ")+" now", impl.ErrText)
			}
		}
		wantNoOp(t, c.line+"now", impl.ErrText)
		wantNoOp(t, c.line+" now 0", impl.ErrText)
	}
}

// TestLinesOfOpsWithAFault has what can be read, but is out of its bounds; a word that cannot be read
// comes ahead of it, and a line that is too long ahead of both.
func TestLinesOfOpsWithAFault(t *testing.T) {
	for _, line := range []string{
		"0 new 13 0", "0 new 12 4096", "0 new 1 2", "0 new 0 1", "0 new -1 0", "0 new 2 -1", "0 new 64 1", "0 new 9999999999 9999999999", "9 new 13 0",
		"0 get 32 12", "0 get 32 -1", "0 get 32 9999999999", "0 load 32 12", "0 load 32 -1", "0 link 32 12 36", "0 link 32 -1 36",
		"0 put 32 12 7", "0 put 32 -1 7", "0 put 32 0 1000000001", "0 put 32 0 -1000000001", "0 put 32 0 9999999999", "0 put 32 0 -9999999999",
	} {
		wantNoOp(t, line, impl.ErrRange)
		wantNoOp(t, line+" now", impl.ErrRange)
		wantNoOp(t, padded(line, 3000), impl.ErrRange)
		for _, wrong := range []string{line + " 0", "x" + line, line + " now 1", "0 " + line, strings.Replace(line, " ", " x", 1), line + "x", line + "99999999999"} {
			wantNoOp(t, wrong, impl.ErrText)
			wantNoOp(t, padded(wrong, 3000), impl.ErrText)
			wantNoOp(t, padded(wrong, 3001), impl.ErrMany)
		}
		wantNoOp(t, padded(line, 3001), impl.ErrMany)
	}
	for _, piece := range []string{" ", "0 used ", "x", "\xff", "\n", "now "} {
		wantNoOp(t, strings.Repeat(piece, 3001), impl.ErrMany)
		wantNoOp(t, strings.Repeat(piece, 3000/len(piece)), impl.ErrText)
		wantNoOp(t, strings.Repeat(piece, 200000), impl.ErrMany)
	}
}

func TestManyLinesOfOps(t *testing.T) {
	pieces := append(append([]string{"0", "1", "-1", "12", "33", "-0", "007", "now", "x", "9999999999", "10000000000", "\u00e9", "\xff", "\t"}, kindWords[1:]...), questions...)
	codes := map[int64]int{}
	check := func(line string) {
		want := modelOp(line)
		codes[want.Code]++
		if got := impl.OpOf(line); got != want {
			t.Errorf("%q: got %+v, want %+v", line, got, want)
		}
	}
	for seed := range uint64(60000) {
		r := rand.New(rand.NewPCG(21, seed))
		if seed%2 == 0 {
			c := lineCases()[r.IntN(len(lineCases()))]
			line := c.line
			for range 1 + r.IntN(2) {
				line = mangled(r, line)
			}
			check(line)
			continue
		}
		kind := 1 + r.Int64N(11)
		line := fmt.Sprint(r.Int64N(4), " ", kindWords[kind])
		for range len(lettersOf(kind)) + r.IntN(3)*r.IntN(2) {
			line += strings.Repeat(" ", 1+r.IntN(2)) + pieces[r.IntN(len(pieces))]
		}
		check(line)
	}
	if codes[impl.OK] < 1000 || codes[impl.ErrText] < 1000 || codes[impl.ErrRange] < 300 {
		t.Errorf("the lines have the codes %v", codes)
	}
}

func TestReplyText(t *testing.T) {
	wantReply := func(code, value int64, text string) {
		t.Helper()
		r := impl.Reply{Code: code, Value: value}
		wantText(t, fmt.Sprintf("%+v", r), impl.ReplyText(r), impl.OK, text)
	}
	for value, text := range map[int64]string{
		0: "ok 0", 1: "ok 1", -7: "ok -7", 32: "ok 32", 1000000000: "ok 1000000000", -1000000000: "ok -1000000000",
		9999999999: "ok 9999999999", -9999999999: "ok -9999999999", 1234567890: "ok 1234567890", 10: "ok 10", -100: "ok -100",
	} {
		wantReply(impl.OK, value, text)
	}
	for code, text := range map[int64]string{
		impl.ErrForm: "no 1", impl.ErrMany: "no 2", impl.ErrRange: "no 3", impl.ErrNone: "no 4", impl.ErrText: "no 5",
		impl.ErrHandle: "no 6", impl.ErrFull: "no 7", impl.ErrState: "no 8", impl.ErrQuota: "no 9",
	} {
		for _, value := range []int64{0, 1, -1, 32, 9999999999, -9999999999} {
			wantReply(code, value, text)
		}
	}
	beyond := []int64{10000000000, -10000000000, 99999999999, math.MaxInt64, math.MinInt64}
	for _, r := range []impl.Reply{{Code: 10}, {Code: -1}, {Code: 11, Value: 5}, {Code: -9}, {Code: 256}, {Code: 1 << 32}, {Code: math.MaxInt64}, {Code: math.MinInt64}} {
		wantText(t, fmt.Sprintf("%+v", r), impl.ReplyText(r), impl.ErrRange, "")
		for _, value := range beyond {
			r.Value = value
			wantText(t, fmt.Sprintf("%+v", r), impl.ReplyText(r), impl.ErrRange, "")
		}
	}
	for code := range int64(10) {
		for _, value := range beyond {
			r := impl.Reply{Code: code, Value: value}
			wantText(t, fmt.Sprintf("%+v", r), impl.ReplyText(r), impl.ErrRange, "")
		}
	}
}

// scriptLine is a line and what is said of it.
type scriptLine struct {
	line, said string
}

// handScript has ops of each kind by two tenants, with what is asked between them. Codes and numbers
// are written by hand.
func handScript() (impl.Config, []scriptLine) {
	return impl.Config{Half: 20, Quotas: []int64{9, 8}, Slots: []int64{3, 2}}, []scriptLine{
		{"taken", "0"}, {"held", "0 0"}, {"moved", "0"}, {"fair", "yes"},
		{"0 new 2 1", "ok 32"}, {"1 new 1 1", "ok 33"}, {"taken", "7"}, {"held", "4 3"},
		{"0 new 1 0", "ok 36"}, {"0 link 32 0 36", "ok 0"}, {"0 put 36 0 -77", "ok 0"}, {"1 link 33 0 33", "ok 0"},
		{"0 drop 36", "ok 0"}, {"held", "7 3"}, {"2 new 0 0", "no 4"}, {"", ""}, {"1 new 3 0", "ok 37"}, {"1 used", "ok 8"},
		{"1 drop 37", "ok 0"}, {"  taken ", "15"}, {"held", "7 3"}, {"1 new 3 0", "ok 69"}, {"1 drop 37", "no 6"}, {"moved", "0"},
		{"taken", "20"}, {"0 new 0 0", "ok 68"}, {"moved", "15"}, {"taken", "17"}, {"held", "9 8"}, {"0 load 32 0", "ok 40"},
		{"0 get 40 0", "ok -77"}, {"9 used now", "no 4"}, {"moved", "32"}, {"1 same 33 69", "ok 0"}, {"0 same 40 40", "ok 1"},
		{"1 hash 69 now", "ok 3"}, {"moved", "49"}, {"0 new 12 0 now", "no 7"}, {"   moved", "66"}, {"    ", ""}, {"0 dup 32", "no 7"},
		{"0 size 40", "ok 1"}, {"0 get 40 1", "no 3"}, {"0 get 32 0", "no 1"}, {"0 drop 40", "ok 0"}, {"0 new 0 0", "no 9"},
		{"-5 used", "no 4"}, {"0 dup 68", "ok 72"}, {"0 put 32 1 1000000000", "ok 0"}, {"0 get 32 1", "ok 1000000000"},
		{"0 put 32 1 -1000000000", "ok 0"}, {"0  get   32 1  ", "ok -1000000000"}, {"taken", "17"}, {"held", "9 8"}, {"moved", "66"}, {"fair", "yes"},
	}
}

func TestStepScriptByHand(t *testing.T) {
	c, lines := handScript()
	var ops []impl.Op
	for n, l := range lines {
		if read := modelOp(l.line); read.Code == impl.OK {
			ops = append(ops, read.Op)
		}
		what := fmt.Sprintf("the line %d, %q", n, l.line)
		before := slices.Clone(ops[:len(ops):len(ops)])
		if l.said != "" && !slices.Contains(questions, strings.TrimSpace(l.line)) {
			before = before[:len(before)-1]
		}
		wantScript(t, what, impl.StepScript(c, before, l.line), ops, l.said)
		wantScript(t, what+", padded", impl.StepScript(c, before, padded(l.line, 3000)), ops, l.said)
	}
	if len(ops) != 33 {
		t.Errorf("there are %d ops", len(ops))
	}
}

// TestStepScriptOfEachLine has the lines of all ops written by hand, and such as are none, behind
// lists of several kinds.
func TestStepScriptOfEachLine(t *testing.T) {
	c, hand, _ := handRun()
	lines := []string{"", " ", "     ", "x", "0", "now", "0 used now now", "0 new 13 0", "0 get 32 12", "taken now", "\t", " \t", "\xff", "\u00a0", "0 used\t", "0 used\r"}
	for _, l := range lineCases() {
		lines = append(lines, l.line, l.line+" now", "  "+l.line)
	}
	for _, q := range questions {
		lines = append(lines, q, q+" ", "  "+q, q+" "+q, q+" 0", "0 "+q, strings.ToUpper(q), q[:3], q[:2]+" "+q[2:], q+"s", q+"\t", q+" now", "now "+q, q+" used")
	}
	for _, list := range [][]impl.Op{nil, {}, hand[:1], hand, mixedOps(), {{Kind: 99, Handle: math.MinInt64}, {Kind: impl.OpNew, Index: -1}}} {
		for _, line := range lines {
			what := fmt.Sprintf("%q behind %d ops", line, len(list))
			want := modelStepScript(c, list, line)
			if got := impl.StepScript(c, list, line); !equalScripts(got, want) {
				t.Errorf("%s: got %+v, want %+v", what, got, want)
			}
		}
	}
}

// wantAsked asks that what is said is what is so, by the functions that tell it, and that no op comes.
func wantAsked(t *testing.T, what string, c impl.Config, list []impl.Op) {
	t.Helper()
	end := impl.RunHeap(c, list)
	sum := int64(0)
	for _, n := range end.Collected {
		sum += n
	}
	var held []string
	for _, n := range impl.HeldBy(end.Heap).Words {
		held = append(held, strconv.FormatInt(n, 10))
	}
	fair := "no"
	if impl.IsFaithful(c, list) {
		fair = "yes"
	}
	wantScript(t, what+": taken", impl.StepScript(c, list, "taken"), list, strconv.FormatInt(end.Heap.Arena.Bump, 10))
	wantScript(t, what+": held", impl.StepScript(c, list, "held"), list, strings.Join(held, " "))
	wantScript(t, what+": moved", impl.StepScript(c, list, "moved"), list, strconv.FormatInt(sum, 10))
	wantScript(t, what+": fair", impl.StepScript(c, list, "fair"), list, fair)
	wantScript(t, what+": nothing", impl.StepScript(c, list, ""), list, "")
	run := modelRun(c, list)
	for _, q := range questions {
		wantScript(t, what+": "+q+" by the model", impl.StepScript(c, list, q), list, modelAnswer(run, q))
	}
}

// TestWhatIsSaidIsWhatIsSo has one tenant to four of them.
func TestWhatIsSaidIsWhatIsSo(t *testing.T) {
	c, hand, _ := handRun()
	for n := range len(hand) + 1 {
		wantAsked(t, fmt.Sprint("behind ", n, " ops"), c, hand[:n])
		wantAsked(t, fmt.Sprint("behind ", n, " ops by force"), c, forced(hand[:n], func(int) bool { return true }))
	}
	tenants, collections := map[int]int{}, 0
	for seed := range uint64(30) {
		r := rand.New(rand.NewPCG(22, seed))
		c := anyConfig(r)
		lists, _, _ := manyLists(r, c)
		for _, list := range lists {
			list = list[:min(len(list), 40)]
			wantAsked(t, fmt.Sprint("the seed ", seed), c, list)
			collections += len(impl.RunHeap(c, list).Collected)
		}
		tenants[len(c.Quotas)]++
	}
	if len(tenants) != 4 || collections < 100 {
		t.Errorf("there were %d collections, and so many configs of so many tenants: %v", collections, tenants)
	}
	wantScript(t, "one tenant", impl.StepScript(impl.Config{Half: 8, Quotas: []int64{8}, Slots: []int64{1}}, nil, "held"), nil, "0")
	wantScript(t, "four tenants", impl.StepScript(impl.Config{Half: 8, Quotas: []int64{2, 2, 2, 2}, Slots: []int64{1, 1, 1, 1}}, nil, "held"), nil, "0 0 0 0")
}

// TestStepScriptCodes has each code, and two that would be so at once.
func TestStepScriptCodes(t *testing.T) {
	c, hand, _ := handRun()
	wrong := []impl.Config{{}, {Half: 7, Quotas: []int64{7}, Slots: []int64{1}}, {Half: 20, Quotas: []int64{30}, Slots: []int64{1}}, {Half: 20, Quotas: []int64{9}}}
	codes := []int64{impl.ErrRange, impl.ErrRange, impl.ErrFull, impl.ErrMany}
	long, many := strings.Repeat("0 used ", 500), make([]impl.Op, 301)
	lines := []string{"", "taken", "fair", "0 used", "0 used now now", "0 new 13 0", "\n", "0 used\n", long, long + "\n", "\xff"}
	for i, line := range lines {
		what := fmt.Sprint("the line ", i)
		for n, w := range wrong {
			for _, list := range [][]impl.Op{nil, hand, many[:300], many} {
				wantNoScript(t, what+" of a config with a fault", impl.StepScript(w, list, line), codes[n])
			}
		}
		for _, n := range []int{301, 302, 10000} {
			wantNoScript(t, what+" behind too many ops", impl.StepScript(c, make([]impl.Op, n), line), impl.ErrMany)
		}
	}
	for _, list := range [][]impl.Op{nil, hand, many[:300]} {
		for _, line := range []string{"\n", "0 used\n", "\n0 used", "0\nused", "taken\n", "\ntaken", " \n ", "x\n", "0 new 13 0\n", long + "\n", "\n" + long, strings.Repeat("\n", 3001)} {
			wantNoScript(t, "a byte 10 in "+shown(line), impl.StepScript(c, list, line), impl.ErrText)
		}
		for _, line := range []string{long, padded("", 3001), padded("taken", 3001), padded("0 used", 3001), padded("x", 3001), padded("0 new 13 0", 3001), strings.Repeat("x", 100000)} {
			wantNoScript(t, "too long: "+shown(line), impl.StepScript(c, list, line), impl.ErrMany)
		}
		for _, line := range []string{"x", "0", "now", "0 used now now", "0 new 2", "taken now", "held held", "Fair", "\t", "\xff", "0 new 13 x", long[:2999]} {
			wantNoScript(t, shown(line), impl.StepScript(c, list, line), impl.ErrText)
		}
		for _, line := range []string{"0 new 13 0", "0 new 1 2", "0 get 32 12", "0 put 32 0 1000000001 now"} {
			wantNoScript(t, shown(line), impl.StepScript(c, list, line), impl.ErrRange)
		}
	}
}

// TestStepScriptBehindTheMostOps has 298 to 300 ops, of which most are refused and some are no ops.
func TestStepScriptBehindTheMostOps(t *testing.T) {
	c, hand, _ := handRun()
	most := slices.Concat(hand, make([]impl.Op, 300-len(hand)))
	o := impl.Op{Tenant: 1, Kind: impl.OpUsed, Force: true}
	for _, n := range []int{298, 299} {
		list := most[:n:n]
		wantScript(t, fmt.Sprint("one more than ", n), impl.StepScript(c, list, "1 used now"), append(list, o), "ok 5")
	}
	for n := 299; n <= 300; n++ {
		list := most[:n:n]
		wantScript(t, "no words", impl.StepScript(c, list, "  "), list, "")
		wantAsked(t, fmt.Sprint("behind ", n, " ops"), c, list)
		wantNoScript(t, "a line that is wrong", impl.StepScript(c, list, "1 use"), impl.ErrText)
		wantNoScript(t, "an op with a fault", impl.StepScript(c, list, "1 new 13 0"), impl.ErrRange)
		wantNoScript(t, "a byte 10", impl.StepScript(c, list, "1 used\n"), impl.ErrText)
		wantNoScript(t, "too long", impl.StepScript(c, list, padded("1 used", 3001)), impl.ErrMany)
	}
	for _, l := range lineCases() {
		wantNoScript(t, l.line, impl.StepScript(c, most, l.line), impl.ErrFull)
		wantNoScript(t, l.line, impl.StepScript(c, most, l.line+" now"), impl.ErrFull)
	}
}

func TestRunScriptByHand(t *testing.T) {
	c, lines := handScript()
	var text, said string
	var ops []impl.Op
	for _, l := range lines {
		if read := modelOp(l.line); read.Code == impl.OK {
			ops = append(ops, read.Op)
		}
		text += l.line + "\n"
		if l.said != "" {
			said += l.said + "\n"
		}
		wantScript(t, "up to "+l.line, impl.RunScript(c, text), ops, said)
		wantScript(t, "up to "+l.line+", without a line feed", impl.RunScript(c, strings.TrimSuffix(text, "\n")), ops, said)
	}
	cases := []struct {
		text, said string
		ops        []impl.Op
	}{
		{"", "", nil},
		{"\n", "", nil},
		{"\n\n\n", "", nil},
		{"   ", "", nil},
		{"   \n", "", nil},
		{"taken", "0\n", nil},
		{"taken\n", "0\n", nil},
		{"taken\n\n", "0\n", nil},
		{"\ntaken", "0\n", nil},
		{"x", "! 5\n", nil},
		{"x\n", "! 5\n", nil},
		{"x\nx\n", "! 5\n! 5\n", nil},
		{"0 new 13 0", "! 3\n", nil},
		{"taken\r\nheld", "! 5\n0 0\n", nil},
		{"0 used\n", "ok 0\n", []impl.Op{{Kind: impl.OpUsed}}},
		{"0 used", "ok 0\n", []impl.Op{{Kind: impl.OpUsed}}},
		{"0 used\n\n", "ok 0\n", []impl.Op{{Kind: impl.OpUsed}}},
		{"0 used\nx\n7 used now", "ok 0\n! 5\nno 4\n", []impl.Op{{Kind: impl.OpUsed}, {Tenant: 7, Kind: impl.OpUsed, Force: true}}},
		{"0 new 2 0\n\xff\n0 new 1 2\nheld\n  \n0 put 32 2 1\n0 put 32 12 1\ntaken", "ok 32\n! 5\n! 3\n4 0\nno 3\n! 3\n4\n", []impl.Op{
			{Kind: impl.OpNew, Index: 2}, {Kind: impl.OpPut, Handle: 32, Index: 2, Value: 1},
		}},
	}
	for _, s := range cases {
		wantScript(t, shown(s.text), impl.RunScript(c, s.text), s.ops, s.said)
	}
}

// TestLengthsOfScripts counts lines and bytes.
func TestLengthsOfScripts(t *testing.T) {
	c, _, _ := handRun()
	used := impl.Op{Kind: impl.OpUsed}
	for _, line := range []string{"", " ", "x", "0 used", "taken"} {
		for _, n := range []int{59, 60, 61, 62, 400} {
			text := strings.Repeat(line+"\n", n)
			for _, end := range []string{"", " ", "0 used", "0 used\n", "\n"} {
				want := lineByLine(c, text+end, modelStepScript)
				if len(linesOf(text+end)) > 60 {
					want = impl.ScriptResult{Code: impl.ErrMany}
				}
				if got := impl.RunScript(c, text+end); !equalScripts(got, want) {
					t.Errorf("%d lines of %q and %q: got %+v, want %+v", n, line, end, got, want)
				}
			}
		}
	}
	wantScript(t, "60 lines", impl.RunScript(c, strings.Repeat("0 used\n", 60)), slices.Repeat([]impl.Op{used}, 60), strings.Repeat("ok 0\n", 60))
	wantScript(t, "the last one without a line feed", impl.RunScript(c, strings.Repeat("\n", 59)+"0 used"), []impl.Op{used}, "ok 0\n")
	wantScript(t, "60 empty lines", impl.RunScript(c, strings.Repeat("\n", 60)), nil, "")
	wantNoScript(t, "61 empty lines", impl.RunScript(c, strings.Repeat("\n", 61)), impl.ErrMany)
	wantNoScript(t, "60 empty lines and a blank", impl.RunScript(c, strings.Repeat("\n", 60)+" "), impl.ErrMany)

	wantScript(t, "3000 bytes in a line", impl.RunScript(c, padded("0 used", 3000)), []impl.Op{used}, "ok 0\n")
	wantScript(t, "3000 bytes in two lines", impl.RunScript(c, padded("0 used\nx", 3000)), []impl.Op{used}, "ok 0\n! 5\n")
	wantScript(t, "3000 blanks", impl.RunScript(c, padded("", 3000)), nil, "")
	wantScript(t, "3000 bytes of runes", impl.RunScript(c, strings.Repeat("\u4e16", 1000)), nil, "! 5\n")
	for _, n := range []int{3001, 3002, 100000} {
		for _, text := range []string{"", "0 used", "0 used\n", "x", strings.Repeat("\n", 60), strings.Repeat("\n", 61)} {
			wantNoScript(t, fmt.Sprint(n, " bytes: ", shown(text)), impl.RunScript(c, padded(text, n)), impl.ErrMany)
		}
		wantNoScript(t, fmt.Sprint(n, " line feeds"), impl.RunScript(c, strings.Repeat("\n", n)), impl.ErrMany)
	}
	wantNoScript(t, "1001 runes", impl.RunScript(c, strings.Repeat("\u4e16", 1001)), impl.ErrMany)
}

func TestScriptsOfAConfigWithAFault(t *testing.T) {
	for _, c := range []struct {
		config impl.Config
		code   int64
	}{
		{impl.Config{}, impl.ErrRange},
		{impl.Config{Half: 7, Quotas: []int64{7}, Slots: []int64{1}}, impl.ErrRange},
		{impl.Config{Half: 20}, impl.ErrMany},
		{impl.Config{Half: 20, Quotas: []int64{9}}, impl.ErrMany},
		{impl.Config{Half: 20, Quotas: []int64{9}, Slots: []int64{9}}, impl.ErrRange},
		{impl.Config{Half: 20, Quotas: []int64{21}, Slots: []int64{8}}, impl.ErrFull},
	} {
		for _, text := range []string{"", "\n", "x", "taken", "0 used", padded("0 used", 3000), padded("0 used", 3001), strings.Repeat("\n", 60), strings.Repeat("\n", 61)} {
			wantNoScript(t, fmt.Sprintf("%+v: %s", c.config, shown(text)), impl.RunScript(c.config, text), c.code)
		}
	}
}

// TestScriptsAreDoneLineByLine has scripts of many kinds of lines.
func TestScriptsAreDoneLineByLine(t *testing.T) {
	counts := map[string]int{}
	for seed := range uint64(40) {
		r := rand.New(rand.NewPCG(23, seed))
		c := anyConfig(r)
		text := anyScript(r, c, 20+r.IntN(41))
		if len(text) > 3000 {
			t.Fatalf("the seed %d has %d bytes", seed, len(text))
		}
		what := fmt.Sprintf("the seed %d, %+v: %q", seed, c, text)
		want := lineByLine(c, text, modelStepScript)
		wantScript(t, what, impl.RunScript(c, text), want.Ops, want.Said)
		steps := lineByLine(c, text, impl.StepScript)
		wantScript(t, what+", by StepScript", steps, want.Ops, want.Said)
		for _, line := range linesOf(want.Said) {
			first, _, _ := strings.Cut(line, " ")
			counts[first]++
		}
		for _, o := range want.Ops {
			counts[kindWords[o.Kind]]++
		}
	}
	for _, what := range append([]string{"ok", "no", "!", "yes"}, kindWords[1:]...) {
		if counts[what] < 10 {
			t.Errorf("these seeds show nothing of some kind: %v", counts)
		}
	}
}

// toldScript has what any function of this chapter answers.
type toldScript struct {
	words  impl.TextsResult
	number impl.IntResult
	text   impl.TextResult
	op     impl.OpResult
	script impl.ScriptResult
}

func equalToldScripts(a, b toldScript) bool {
	return a.words.Code == b.words.Code && slices.Equal(a.words.Words, b.words.Words) && a.number == b.number &&
		a.text == b.text && a.op == b.op && equalScripts(a.script, b.script)
}

// spoilScript turns all that an answer has in lists, and behind these.
func spoilScript(told toldScript) {
	ops, words := told.script.Ops, told.words.Words
	for i := range ops[:cap(ops)] {
		ops[:cap(ops)][i] = impl.Op{Tenant: -77}
	}
	for i := range words[:cap(words)] {
		words[:cap(words)][i] = "spoilt"
	}
}

// scriptCalls are calls of all functions of this chapter.
func scriptCalls(line string) map[string]func(c impl.Config, list []impl.Op) toldScript {
	type call = func(c impl.Config, list []impl.Op) toldScript
	return map[string]call{
		"SplitWords": func(impl.Config, []impl.Op) toldScript { return toldScript{words: impl.SplitWords(line)} },
		"NumberOf":   func(impl.Config, []impl.Op) toldScript { return toldScript{number: impl.NumberOf(line)} },
		"OpOf":       func(impl.Config, []impl.Op) toldScript { return toldScript{op: impl.OpOf(line)} },
		"StepScript": func(c impl.Config, list []impl.Op) toldScript {
			return toldScript{script: impl.StepScript(c, list, line)}
		},
		"RunScript": func(c impl.Config, list []impl.Op) toldScript {
			return toldScript{script: impl.RunScript(c, strings.Repeat(line+"\n", 3))}
		},
		"OpText": func(c impl.Config, list []impl.Op) toldScript {
			if len(list) == 0 {
				return toldScript{}
			}
			return toldScript{text: impl.OpText(list[len(list)-1])}
		},
		"ReplyText": func(c impl.Config, list []impl.Op) toldScript {
			return toldScript{text: impl.ReplyText(impl.Reply{Code: int64(len(list) % 11), Value: c.Half})}
		},
	}
}

// TestScriptsAnswerAlikeAndChangeNoArgument has room behind each list, so that an answer that is
// appended to would be seen there.
func TestScriptsAnswerAlikeAndChangeNoArgument(t *testing.T) {
	lines := []string{"", "  ", "taken", "held", "moved", "fair", "0 new 1 0", " 1 used now ", "0 get 32 12", "x", "-12", "0 used\n", "a b c d", "\xff \xfe", padded("0 used", 3001)}
	lists := slices.Concat(awkwardLists()[:2], [][]impl.Op{{}, awkwardLists()[2][:40], mixedOps(), make([]impl.Op, 299), make([]impl.Op, 300), make([]impl.Op, 301)})
	for _, config := range awkwardConfigs() {
		for _, list := range lists {
			for _, line := range lines {
				v := viewArguments{config: config, a: list}.roomy()
				before := v.behind()
				for name, call := range scriptCalls(line) {
					what := fmt.Sprintf("%s of %s", name, shown(line))
					first, second := call(v.config, v.a), call(v.config, v.a)
					if !equalToldScripts(first, second) {
						t.Fatalf("%s answers %+v and then %+v", what, first, second)
					}
					want := second
					want.words.Words, want.script.Ops = slices.Clone(second.words.Words), slices.Clone(second.script.Ops)
					spoilScript(first)
					if !equalToldScripts(second, want) || !equalToldScripts(call(v.config, v.a), want) {
						t.Fatalf("%s: what was done to an answer is seen in another one", what)
					}
					if !v.behind().equals(before) {
						t.Fatalf("%s turned %+v into %+v", what, before, v)
					}
				}
			}
		}
	}
}

// TestWordsShareNoMemoryWithTheirLine lays a line over bytes, which are turned behind the call.
func TestWordsShareNoMemoryWithTheirLine(t *testing.T) {
	for _, line := range []string{"a", "0 new 2 1 now", " a", "a ", strings.Repeat("ab ", 1000), strings.Repeat("x", 3000)} {
		bytes := []byte(line)
		got := impl.SplitWords(unsafe.String(&bytes[0], len(bytes)))
		for i := range bytes {
			bytes[i] = '?'
		}
		if !slices.Equal(got.Words, modelWords(line)) {
			t.Errorf("%s: its words have become %q", shown(line), got.Words)
		}
	}
}
