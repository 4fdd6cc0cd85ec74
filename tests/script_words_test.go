package tests

import (
	"math"
	"slices"
	"strconv"
	"strings"
	"testing"

	"loop.example/g00691/impl"
)

func TestWordsOfALine(t *testing.T) {
	for line, words := range map[string][]string{
		"":                          nil,
		" ":                         nil,
		"     ":                     nil,
		"a":                         {"a"},
		" a":                        {"a"},
		"a ":                        {"a"},
		"a b":                       {"a", "b"},
		"   a    b  ":               {"a", "b"},
		"begin 0 dir /a":            {"begin", "0", "dir", "/a"},
		"b a b a":                   {"b", "a", "b", "a"},
		"a\tb":                      {"a\tb"},
		"\ta \t b":                  {"\ta", "\t", "b"},
		"a\nb c\n":                  {"a\nb", "c\n"},
		"\n":                        {"\n"},
		"\r\v\f \x00 \x1f!":         {"\r\v\f", "\x00", "\x1f!"},
		"\x80 \xff\xfe a\xc3 b":     {"\x80", "\xff\xfe", "a\xc3", "b"},
		"\u00a0 a\u2003b \u3000":    {"\u00a0", "a\u2003b", "\u3000"},
		"ä 日本 \ufffd \U0001f600":    {"ä", "日本", "\ufffd", "\U0001f600"},
		"\xe6\x97 \xa5":             {"\xe6\x97", "\xa5"},
		"\u0085 \u1680 \u2028":      {"\u0085", "\u1680", "\u2028"},
		"now  now now      now  ":   {"now", "now", "now", "now"},
		"\xc2\x20\xa0 \xe2\x80\x20": {"\xc2", "\xa0", "\xe2\x80"},
	} {
		checkWordsOf(t, line, impl.TextsResult{Words: words})
		checkWordsOf(t, line, wordsOfByRule(line))
	}
}

func TestNoOtherByteIsABlank(t *testing.T) {
	for b := range 256 {
		other := string([]byte{byte(b)})
		if other == " " {
			continue
		}
		checkWordsOf(t, other, impl.TextsResult{Words: []string{other}})
		checkWordsOf(t, "x"+other+"y", impl.TextsResult{Words: []string{"x" + other + "y"}})
		checkWordsOf(t, " "+other+"  y"+other+" ", impl.TextsResult{Words: []string{other, "y" + other}})
	}
}

func TestHowLongALineMayBe(t *testing.T) {
	for _, part := range []string{"a", " ", "a ", " ab", "日", "\n", "\xff", "sync  ", "   ab \t"} {
		whole := strings.Repeat(part, 3001)
		for _, many := range []int{2999, 3000} {
			line := whole[:many]
			checkWordsOf(t, line, impl.TextsResult{Words: wordsOfByRule(line).Words})
			if got := impl.WordsOf(line); got.Code != 0 || strings.Join(got.Words, "") != strings.ReplaceAll(line, " ", "") {
				t.Errorf("of %d bytes %q: %+v", many, part, got)
			}
		}
		// Bytes are counted, whatever they tell.
		for _, many := range []int{3001, min(3002, len(whole)), len(whole)} {
			checkWordsOf(t, whole[:many], impl.TextsResult{Code: impl.ErrMany})
		}
	}
	checkWordsOf(t, strings.Repeat("a ", 1500), impl.TextsResult{Words: slices.Repeat([]string{"a"}, 1500)})
	checkWordsOf(t, strings.Repeat("a ", 1500)+" ", impl.TextsResult{Code: impl.ErrMany})
	checkWordsOf(t, strings.Repeat("a", 1000000), impl.TextsResult{Code: impl.ErrMany})
}

func TestEachNumberOfSixDigitsIsRead(t *testing.T) {
	for n := range int64(1000000) {
		word := strconv.FormatInt(n, 10)
		if got := impl.NumberOf(word); got.Code != 0 || got.Value != n {
			t.Fatalf("NumberOf of %q = %+v", word, got)
		}
		if n < 100000 {
			checkNumberOf(t, "0"+word, impl.IntResult{Code: impl.ErrText})
		}
	}
	for _, word := range []string{"1000000", "9999999", "10000000", "1234567", "9223372036854775807", "9223372036854775808", "18446744073709551616", "18446744073709551617", "100000000000000000000"} {
		checkNumberOf(t, word, impl.IntResult{Code: impl.ErrText})
	}
}

// notNumerals: words that are no number, and not only by a byte.
func notNumerals() []string {
	return []string{
		"", " ", "a", "x", "00", "01", "000", "0000", "000000", "012345", "0000000", "0123456", "-1", "+1", "-0", "+0", "--1", "-", "+", " 1", "1 ", "1 2", "12 ", "1a", "a1", "1x",
		"0x1", "0b1", "0o7", "1_0", "1e1", "1e0", "1.0", "1.", ".1", "1,0", "1\n", "\n1", "1\t", "\x001", "1\x00", "1\xff", "\xff",
		"\u0661", "\u06f1", "\u0967", "\uff11", "1\uff11", "\u00b2", "\u2460", "\U0001d7cf", "inf", "nan", "NaN", "one", "/a", "٣", "−1",
	}
}

func TestWordsThatAreNoNumber(t *testing.T) {
	for _, word := range notNumerals() {
		checkNumberOf(t, word, impl.IntResult{Code: impl.ErrText})
	}
	for _, whole := range []string{"1", "12", "123456"} {
		for place := range len(whole) {
			for b := range 256 {
				word := whole[:place] + string([]byte{byte(b)}) + whole[place+1:]
				checkNumberOf(t, word, numberOfByRule(word))
				if isDigit := b >= '0' && b <= '9'; !isDigit {
					checkNumberOf(t, word, impl.IntResult{Code: impl.ErrText})
				}
			}
		}
	}
	for _, digit := range []string{"0", "1", "9"} {
		for _, many := range []int{7, 18, 19, 20, 1000, 1000000} {
			checkNumberOf(t, strings.Repeat(digit, many), impl.IntResult{Code: impl.ErrText})
		}
	}
}

func TestTextsOfReplies(t *testing.T) {
	for text, r := range map[string]impl.Reply{
		"yes":           {},
		"yes 0":         {Numbers: []int64{0}},
		"yes 1 2 a":     {Numbers: []int64{1, 2}, Names: []string{"a"}},
		"yes 9999 0 10": {Numbers: []int64{9999, 0, 10}},
		"yes a":         {Names: []string{"a"}},
		"yes zzzzzz b":  {Names: []string{"zzzzzz", "b"}},
		"yes b a a":     {Names: []string{"b", "a", "a"}},
		"yes 7 7 yes":   {Numbers: []int64{7, 7}, Names: []string{"yes"}},
		"no 1":          {Code: 1},
		"no 4":          {Code: 4},
		"no 8":          {Code: 8, Numbers: []int64{1, 2}, Names: []string{"a"}},
		"no 9":          {Code: 9, Names: []string{"b", "c"}},
		"no 7":          {Code: 7, Numbers: []int64{9999}},
	} {
		checkReplyText(t, r, impl.TextResult{Text: text})
	}
	for code := int64(1); code <= 9; code++ {
		checkReplyText(t, impl.Reply{Code: code}, impl.TextResult{Text: "no " + strconv.FormatInt(code, 10)})
	}
	checkReplyText(t, impl.Reply{Numbers: []int64{}, Names: []string{}}, impl.TextResult{Text: "yes"})
	for n := range int64(10000) {
		checkReplyText(t, impl.Reply{Numbers: []int64{n}}, impl.TextResult{Text: "yes " + strconv.FormatInt(n, 10)})
	}
}

func TestTheCodesOfReplies(t *testing.T) {
	for _, code := range []int64{math.MinInt64, -2, -1, 10, 11, math.MaxInt64} {
		// The Code is asked ahead of all else.
		for _, r := range []impl.Reply{{}, {Numbers: make([]int64, 17)}, {Names: make([]string, 61)}, {Numbers: []int64{-1}}, {Names: []string{""}}} {
			r.Code = code
			checkReplyText(t, r, impl.TextResult{Code: impl.ErrRange})
		}
	}
}

func TestHowMuchAReplyMayHave(t *testing.T) {
	for _, code := range []int64{0, 4, 9} {
		most := impl.Reply{Code: code, Numbers: slices.Repeat([]int64{9999}, 16), Names: slices.Repeat([]string{"zzzzzz"}, 60)}
		text := "yes" + strings.Repeat(" 9999", 16) + strings.Repeat(" zzzzzz", 60)
		if code != 0 {
			text = "no " + strconv.FormatInt(code, 10)
		}
		checkReplyText(t, most, impl.TextResult{Text: text})
		for _, many := range []int{17, 18, 100000} {
			checkReplyText(t, impl.Reply{Code: code, Numbers: make([]int64, many)}, impl.TextResult{Code: impl.ErrMany})
			// How many there are is asked ahead of each of them.
			checkReplyText(t, impl.Reply{Code: code, Numbers: slices.Repeat([]int64{-1}, many), Names: []string{"A"}}, impl.TextResult{Code: impl.ErrMany})
		}
		for _, many := range []int{61, 62, 100000} {
			checkReplyText(t, impl.Reply{Code: code, Names: slices.Repeat([]string{"a"}, many)}, impl.TextResult{Code: impl.ErrMany})
			checkReplyText(t, impl.Reply{Code: code, Names: make([]string, many), Numbers: []int64{10000}}, impl.TextResult{Code: impl.ErrMany})
		}
	}
}

func TestNumbersAndNamesOfRepliesThatAreNone(t *testing.T) {
	for _, code := range []int64{0, 1, 9} {
		for _, n := range []int64{math.MinInt64, -9999, -1, 10000, 10001, math.MaxInt64} {
			for place := range 16 {
				list := make([]int64, 16)
				list[place] = n
				checkReplyText(t, impl.Reply{Code: code, Numbers: list}, impl.TextResult{Code: impl.ErrRange})
				// All numbers are asked ahead of the first name.
				checkReplyText(t, impl.Reply{Code: code, Numbers: list, Names: []string{"A", "b"}}, impl.TextResult{Code: impl.ErrRange})
			}
		}
		for _, name := range notNames() {
			for _, names := range [][]string{{name}, {"a", name, "b"}, append(slices.Repeat([]string{"a"}, 59), name)} {
				checkReplyText(t, impl.Reply{Code: code, Names: names}, impl.TextResult{Code: impl.ErrText})
				checkReplyText(t, impl.Reply{Code: code, Names: names, Numbers: []int64{0, 9999}}, impl.TextResult{Code: impl.ErrText})
			}
		}
	}
}
