package tests

import (
	"slices"
	"strings"
	"testing"

	"loop.example/g00789/impl"
)

func TestNumbersOfScripts(t *testing.T) {
	if impl.MaxScript != 3000 || impl.MaxLines != 80 {
		t.Error("the longest script", impl.MaxScript, impl.MaxLines)
	}
}

func wantWords(t *testing.T, name string, got impl.TextsResult, code int64, words []string) {
	t.Helper()
	if got.Code != code || !slices.Equal(got.Words, words) {
		t.Errorf("%s: %d %q, want %d %q", name, got.Code, got.Words, code, words)
	}
}

func TestWordsOf(t *testing.T) {
	cases := []struct {
		name  string
		line  string
		words []string
	}{
		{"an empty line", "", nil},
		{"a blank", " ", nil},
		{"blanks alone", "     ", nil},
		{"one word", "work", []string{"work"}},
		{"one letter", "a", []string{"a"}},
		{"two words", "debt 0", []string{"debt", "0"}},
		{"four words", "move 0 1 2", []string{"move", "0", "1", "2"}},
		{"many words", "a b c d e f g h", []string{"a", "b", "c", "d", "e", "f", "g", "h"}},
		{"the same word again", "a a a", []string{"a", "a", "a"}},
		{"a blank ahead", " a", []string{"a"}},
		{"blanks ahead", "    a", []string{"a"}},
		{"a blank behind", "a ", []string{"a"}},
		{"blanks behind", "a    ", []string{"a"}},
		{"several blanks between", "a   b", []string{"a", "b"}},
		{"blanks ahead, behind and between", "  a   bc  d    ", []string{"a", "bc", "d"}},
		{"a tab between", "a\tb", []string{"a\tb"}},
		{"a tab alone", "\t", []string{"\t"}},
		{"a tab ahead and one behind", "\ta\t b", []string{"\ta\t", "b"}},
		{"a line feed between", "a\nb", []string{"a\nb"}},
		{"a line feed behind", "work \n", []string{"work", "\n"}},
		{"a carriage return behind", "work\r", []string{"work\r"}},
		{"other blanks of ASCII", "a\vb\fc\rd", []string{"a\vb\fc\rd"}},
		{"the byte 0", "\x00", []string{"\x00"}},
		{"the byte 0 between blanks", " \x00 \x00\x00 ", []string{"\x00", "\x00\x00"}},
		{"bytes above 127", "\x80 \xff\xfe \xc3", []string{"\x80", "\xff\xfe", "\xc3"}},
		{"letters above 127", "\u00e4\u00f6 \u20ac", []string{"\u00e4\u00f6", "\u20ac"}},
		{"blanks that are not the byte 32", "a\u00a0b\u2003c\u3000d\u0085e", []string{"a\u00a0b\u2003c\u3000d\u0085e"}},
		{"the bytes beside the blank", "\x1f \x21", []string{"\x1f", "\x21"}},
		{"signs", "! ; - + # /", []string{"!", ";", "-", "+", "#", "/"}},
	}
	for _, c := range cases {
		wantWords(t, c.name, impl.WordsOf(c.line), impl.OK, c.words)
	}
}

// Each byte but the blank is a piece of a word.
func TestWordsOfEachByte(t *testing.T) {
	for b := range 256 {
		one := string([]byte{byte(b)})
		words := []string{one}
		if b == 32 {
			words = nil
		}
		wantWords(t, one, impl.WordsOf(one), impl.OK, words)
		wantWords(t, one, impl.WordsOf(" "+one+"  "+one+" "), impl.OK, slices.Concat(words, words))
		if b != 32 {
			wantWords(t, one, impl.WordsOf("x"+one+"y"), impl.OK, []string{"x" + one + "y"})
		}
	}
}

func TestWordsOfTheLongestLine(t *testing.T) {
	cases := []struct {
		name  string
		line  string
		words []string
	}{
		{"blanks", strings.Repeat(" ", 3000), nil},
		{"one word", strings.Repeat("a", 3000), []string{strings.Repeat("a", 3000)}},
		{"as many words as there may be", strings.Repeat("a ", 1500), slices.Repeat([]string{"a"}, 1500)},
		{"blanks, and a word at the end", strings.Repeat(" ", 2996) + "work", []string{"work"}},
		{"a word, and blanks behind", "work" + strings.Repeat(" ", 2996), []string{"work"}},
		{"bytes 0", strings.Repeat("\x00", 3000), []string{strings.Repeat("\x00", 3000)}},
		{"fewer letters than bytes", strings.Repeat("\u00e4", 1500), []string{strings.Repeat("\u00e4", 1500)}},
		{"one byte less", strings.Repeat("b ", 1499) + "c", append(slices.Repeat([]string{"b"}, 1499), "c")},
	}
	for _, c := range cases {
		wantWords(t, c.name, impl.WordsOf(c.line), impl.OK, c.words)
	}
	for _, c := range cases[:7] {
		for _, more := range []string{" ", "a", "\x00", " a", strings.Repeat(" ", 100000)} {
			wantWords(t, c.name+" and more", impl.WordsOf(c.line+more), impl.ErrMany, nil)
			wantWords(t, "more and "+c.name, impl.WordsOf(more+c.line), impl.ErrMany, nil)
		}
	}
	wantWords(t, "more bytes than letters may be", impl.WordsOf(strings.Repeat("\u00e4", 1501)), impl.ErrMany, nil)
}

func TestNumberOf(t *testing.T) {
	for word, value := range map[string]int64{
		"0": 0, "1": 1, "7": 7, "9": 9, "10": 10, "99": 99, "100": 100, "101": 101, "1000": 1000, "12345": 12345, "90909": 90909,
		"99999": 99999, "100000": 100000, "123456": 123456, "999999": 999999, "654321": 654321, "200000": 200000, "900009": 900009,
	} {
		wantInt(t, word, impl.NumberOf(word), impl.OK, value)
	}
	for _, word := range []string{
		"", " ", "  ", "00", "01", "007", "000000", "000001", "012345", "0000000", "1000000", "9999999", "0999999", "12345678901234567890",
		"9223372036854775807", "9223372036854775808", "18446744073709551617", "+0", "-0", "+1", "-1", "+12345", "-", "+", "--1", "1-", "1+",
		" 1", "1 ", "1 2", "\t1", "1\t", "1\n", "\n1", "1\r", "\x001", "1\x00", "\x00", "a", "a1", "1a", "1a2", "12345a", "a12345", "0x1", "0b1", "0o7",
		"1e3", "1.0", "1.", ".1", "1,000", "1_000", "/", ":", "1/", "1:", "/1", ":1", "\u0661", "1\u0661", "\uff11", "\u00b2", "\xb0", "\xff", "x", "E", "zero", "NaN",
		strings.Repeat("1", 3001), strings.Repeat("0", 7),
	} {
		wantInt(t, word, impl.NumberOf(word), impl.ErrText, 0)
	}
}

// Each byte that is no digit spoils a number at each of its places.
func TestNumberOfEachByte(t *testing.T) {
	for b := range 256 {
		one := string([]byte{byte(b)})
		isDigit := '0' <= b && b <= '9'
		for _, around := range [][2]string{{"", ""}, {"1", ""}, {"1", "2"}, {"12345", ""}, {"", "2"}, {"", "23456"}} {
			got := impl.NumberOf(around[0] + one + around[1])
			isNumber := isDigit && (b != '0' || around[0] != "" || around[1] == "")
			if (got.Code == impl.OK) != isNumber || !isNumber && got != (impl.IntResult{Code: impl.ErrText}) {
				t.Errorf("%q: %v", around[0]+one+around[1], got)
			}
		}
	}
}

func wantText(t *testing.T, name string, got impl.TextResult, code int64, text string) {
	t.Helper()
	if got != (impl.TextResult{Code: code, Text: text}) {
		t.Errorf("%s: %d %q, want %d %q", name, got.Code, got.Text, code, text)
	}
}

func TestNoteText(t *testing.T) {
	words := []string{1: "run", "skip", "idle", "yield", "return", "forced", "dropped"}
	envs := map[int64]string{nobody: "", 0: " 0", 1: " 1", 2: " 2", 3: " 3"}
	for kind := int64(1); kind <= 7; kind++ {
		for env, behind := range envs {
			for _, tick := range []int64{0, 1, 9, 500, 99999, 100000} {
				wantText(t, "a note", impl.NoteText(noteOf(tick, env, kind)), impl.OK, words[kind]+behind)
			}
		}
	}
	for _, c := range []struct {
		n    impl.Note
		text string
	}{
		{began(0, 1), "run 1"}, {skipped(9, 0), "skip 0"}, {idled(18), "idle"}, {yielded(3, 2), "yield 2"},
		{returned(6, 3), "return 3"}, {forced(8, 0), "forced 0"}, {noteOf(8, 3, impl.NoteDropped), "dropped 3"},
		{noteOf(0, 2, impl.NoteIdle), "idle 2"}, {noteOf(0, nobody, impl.NoteRun), "run"}, {noteOf(100000, nobody, impl.NoteDropped), "dropped"},
	} {
		wantText(t, "a note", impl.NoteText(c.n), impl.OK, c.text)
	}
}

func TestNoteTextOutOfBounds(t *testing.T) {
	badTicks := []int64{lowest, -2, -1, 100001, 100002, 1 << 32, highest}
	badEnvs := []int64{lowest, -3, -2, 4, 5, 1 << 32, 1<<32 + 1, highest}
	badKinds := []int64{lowest, -1, 0, 8, 9, 1 << 32, 1<<32 + 1, highest}
	for _, tick := range append([]int64{0, 100000}, badTicks...) {
		for _, env := range append([]int64{nobody, 0, 3}, badEnvs...) {
			for _, kind := range append([]int64{1, 3, 7}, badKinds...) {
				if slices.Contains(badTicks, tick) || slices.Contains(badEnvs, env) || slices.Contains(badKinds, kind) {
					wantText(t, "out of its bounds", impl.NoteText(noteOf(tick, env, kind)), impl.ErrRange, "")
				}
			}
		}
	}
	wantText(t, "zero", impl.NoteText(impl.Note{}), impl.ErrRange, "")
}

func wantEvent(t *testing.T, line string, code int64, e impl.Event) {
	t.Helper()
	if got := impl.EventOf(line); got != (impl.EventResult{Code: code, Event: e}) {
		t.Errorf("%q: %v, want %d %v", line, got, code, e)
	}
}

func TestEventOf(t *testing.T) {
	for line, e := range map[string]impl.Event{
		"create 0": callOf(impl.CallCreate, 0, 0, 0), "create 3": callOf(impl.CallCreate, 3, 0, 0),
		"destroy 0": callOf(impl.CallDestroy, 0, 0, 0), "destroy 2": callOf(impl.CallDestroy, 2, 0, 0),
		"take 0 0": callOf(impl.CallTake, 0, 0, 0), "take 1 2": callOf(impl.CallTake, 1, 2, 0), "take 3 11": callOf(impl.CallTake, 3, 11, 0),
		"free 0 0": callOf(impl.CallFree, 0, 0, 0), "free 2 1": callOf(impl.CallFree, 2, 1, 0), "free 3 11": callOf(impl.CallFree, 3, 11, 0),
		"move 0 0 0": callOf(impl.CallMove, 0, 0, 0), "move 1 2 3": callOf(impl.CallMove, 1, 2, 3), "move 3 11 0": callOf(impl.CallMove, 3, 11, 0),
		"move 2 10 2": callOf(impl.CallMove, 2, 10, 2), "work": tickOf(impl.ActWork, 0), "return": tickOf(impl.ActReturn, 0),
		"yield 0": tickOf(impl.ActYield, 0), "yield 1": tickOf(impl.ActYield, 1), "yield 3": tickOf(impl.ActYield, 3),
	} {
		wantEvent(t, line, impl.OK, e)
		spread := strings.ReplaceAll(line, " ", "   ")
		for _, same := range []string{" " + line, line + " ", "  " + line + "   ", spread, " " + spread + " ", strings.Repeat(" ", 3000-len(line)) + line} {
			wantEvent(t, same, impl.OK, e)
		}
		wantEvent(t, strings.Repeat(" ", 3001-len(line))+line, impl.ErrMany, impl.Event{})
	}
}

// rightLines are one of each form, with each ask behind them.
var (
	rightLines = []string{"create 1", "destroy 1", "take 1 2", "free 1 2", "move 1 2 3", "work", "return", "yield 1"}
	asks       = []string{"tick", "who", "owners", "debt 1", "picks"}
	noNumbers  = []string{"x", "-", "-1", "+1", "01", "00", "1000000", "1a", "1\t", "\x001", "\xff", "1,", "1.0", "0x1", "E", "1\n", "\n", "\u0661"}
)

func TestEventOfWhatIsNoEvent(t *testing.T) {
	lines := []string{
		"", " ", strings.Repeat(" ", 3000), "foo", "1", "0", "1 create", "1 2", "Work", "WORK", "works", "wor", "w", "workreturn", "work return", "work\x00", "work\t", "\twork",
		"work\n", "work\r", "create0", "create\t0", "create,0", "create 0,", "Create 0", "yield1", "yieldto 1", "idle", "run 1", "skip 1", "forced 0",
		"dropped 0", "ok", "!", "! 5", "nobody", "create create", "take take 0", "move 0 move 1", "\u00a0work", strings.Repeat("work ", 600), strings.Repeat("1 ", 1500),
	}
	lines = append(lines, asks...)
	for _, line := range rightLines {
		words := strings.Fields(line)
		lines = append(lines, line+" 0", line+" 1", line+" work", line+" x", line+" 0 0", "x "+line, line+" "+line, line+"x", line+"\n", strings.ToUpper(line))
		for at := range words {
			fewer := slices.Delete(slices.Clone(words), at, at+1)
			lines = append(lines, strings.Join(fewer, " "), strings.Join(fewer[:at], " "))
			for _, no := range noNumbers {
				spoiled := slices.Clone(words)
				spoiled[at] = no
				lines = append(lines, strings.Join(spoiled, " "))
			}
		}
	}
	for _, line := range lines {
		wantEvent(t, line, impl.ErrText, impl.Event{})
	}
}

func TestEventOfNumbersOutOfTheirBounds(t *testing.T) {
	for _, line := range []string{
		"create 4", "create 5", "create 10", "create 999999", "destroy 4", "destroy 999999", "take 4 0", "take 0 12", "take 0 999999", "take 4 12", "take 999999 11",
		"free 4 0", "free 0 12", "free 3 13", "free 999999 999999", "move 4 0 0", "move 0 12 0", "move 0 0 4", "move 4 12 4", "move 0 11 999999", "move 3 999999 3",
		"yield 4", "yield 5", "yield 999999",
	} {
		wantEvent(t, line, impl.ErrRange, impl.Event{})
	}
}

// What a line is too long for is asked first, then what cannot be read, and then
// what is out of its bounds.
func TestWhichFaultOfAnEventComesFirst(t *testing.T) {
	wantEvent(t, "create 9 x", impl.ErrText, impl.Event{})
	wantEvent(t, "create 9 9", impl.ErrText, impl.Event{})
	wantEvent(t, "take 9 x", impl.ErrText, impl.Event{})
	wantEvent(t, "take x 99", impl.ErrText, impl.Event{})
	wantEvent(t, "move 9 99 1000000", impl.ErrText, impl.Event{})
	for _, line := range append([]string{"", "foo", "create 9", "create x", "take 9 x", "work\n"}, rightLines...) {
		wantEvent(t, line+strings.Repeat(" ", 3001-len(line)), impl.ErrMany, impl.Event{})
		wantEvent(t, line+strings.Repeat("a", 3001-len(line)), impl.ErrMany, impl.Event{})
	}
}
