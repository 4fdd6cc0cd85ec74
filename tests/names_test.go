package tests

import (
	"math"
	"strconv"
	"strings"
	"testing"

	"loop.example/g00691/impl"
)

const greatestNameWord = 387420488

// nameByDigits works a name out another way than the program: by the library's digits to the base 27.
func nameByDigits(word int64) (string, bool) {
	if word < 1 || word > greatestNameWord {
		return "", false
	}
	name := ""
	for _, digit := range strconv.FormatInt(word, 27) {
		n := strings.IndexRune("0123456789abcdefghijklmnopq", digit)
		if n == 0 {
			return "", false
		}
		name += string("abcdefghijklmnopqrstuvwxyz"[n-1])
	}
	return name, true
}

func checkWord(t *testing.T, word int64) {
	t.Helper()
	name, is := nameByDigits(word)
	got := impl.WordName(word)
	if !is {
		if got != (impl.TextResult{Code: impl.ErrText}) {
			t.Fatalf("WordName(%d) = %+v, and it is no name's word", word, got)
		}
		return
	}
	if got != (impl.TextResult{Text: name}) {
		t.Fatalf("WordName(%d) = %+v, want %q", word, got, name)
	}
	if back := impl.NameWord(name); back != (impl.IntResult{Value: word}) {
		t.Fatalf("NameWord(%q) = %+v, want %d", name, back, word)
	}
	if !impl.IsName(name) {
		t.Fatalf("IsName(%q) is false", name)
	}
}

func TestNamesOfUpToFourLettersAreToldBack(t *testing.T) {
	for word := int64(-30); word <= 27*27*27*27; word++ {
		checkWord(t, word)
	}
}

func TestLongerNamesAreToldBack(t *testing.T) {
	for word := int64(27 * 27 * 27 * 27); word <= greatestNameWord; word += 4999 {
		checkWord(t, word)
	}
	for word := int64(greatestNameWord - 1000); word <= greatestNameWord+1000; word++ {
		checkWord(t, word)
	}
}

func TestEachLetterAtEachPlaceIsToldBack(t *testing.T) {
	for size := 1; size <= 6; size++ {
		for _, other := range "amz" {
			for place := range size {
				for letter := 'a'; letter <= 'z'; letter++ {
					runes := []rune(strings.Repeat(string(other), size))
					runes[place] = letter
					name := string(runes)
					word := impl.NameWord(name)
					if word.Code != impl.OK || impl.WordName(word.Value) != (impl.TextResult{Text: name}) {
						t.Fatalf("%q: %+v, told back as %+v", name, word, impl.WordName(word.Value))
					}
				}
			}
		}
	}
}

func TestWordsOfNames(t *testing.T) {
	cases := []struct {
		name string
		word int64
	}{
		{"a", 1}, {"b", 2}, {"z", 26}, {"aa", 28}, {"ab", 29}, {"ba", 55}, {"zz", 728}, {"aaa", 757},
		{"aaaaaa", 14900788}, {"zzzzz", 14348906}, {"zzzzzz", greatestNameWord},
	}
	for _, c := range cases {
		if got := impl.NameWord(c.name); got != (impl.IntResult{Value: c.word}) {
			t.Errorf("NameWord(%q) = %+v, want %d", c.name, got, c.word)
		}
		if got := impl.WordName(c.word); got != (impl.TextResult{Text: c.name}) {
			t.Errorf("WordName(%d) = %+v, want %q", c.word, got, c.name)
		}
	}
}

// notNames: what is asked as a name and is none.
func notNames() []string {
	list := []string{
		"", "aaaaaaa", "abcdefg", "zzzzzzz", "A", "Z", "aB", "Abc", "abC", "abcdeF",
		" ", "a ", " a", "a b", "a-b", "a/b", "/", "/a", ".", "..", "1", "a1", "0", "\x00", "a\x00", "a\n",
		"`", "{", "a`", "z{", "@", "[",
		"\xff", "a\xff", "\x80", "\xc3", "a\xc3b", "\xed\xa0\x80", "\xf8\x88\x80\x80",
		"ä", "aä", "é", "ａ", "а", "日", "日本", "\ufffd", "\u0161", "\U00010061",
		strings.Repeat("a", 1000000), strings.Repeat("\xff", 100000),
	}
	for b := range 256 {
		if b < 'a' || b > 'z' {
			list = append(list, string([]byte{byte(b)}), string([]byte{'a', byte(b)}), string([]byte{byte(b), 'z'}), string([]byte{'a', 'b', 'c', 'd', 'e', byte(b)}))
		}
	}
	return list
}

func TestWrongNames(t *testing.T) {
	for _, name := range notNames() {
		if impl.IsName(name) {
			t.Errorf("IsName(%.20q) is true", name)
		}
		if got := impl.NameWord(name); got != (impl.IntResult{Code: impl.ErrText}) {
			t.Errorf("NameWord(%.20q) = %+v", name, got)
		}
	}
}

func TestWrongNameWords(t *testing.T) {
	words := []int64{
		math.MinInt64, math.MinInt64 + 1, -greatestNameWord, -29, -27, -1, 0,
		27, 54, 26 * 27, 729, 730, 755, 756, 783, 2 * 729, 19683, 531441, 14348907, 14348908, 26 * 14348907,
		greatestNameWord + 1, greatestNameWord + 2, 27 * 14900788, 999999999999999, 1000000000000000,
		math.MaxInt32, math.MaxUint32 + 30, math.MaxInt64 - 1, math.MaxInt64,
	}
	for _, word := range words {
		if got := impl.WordName(word); got != (impl.TextResult{Code: impl.ErrText}) {
			t.Errorf("WordName(%d) = %+v", word, got)
		}
	}
}
