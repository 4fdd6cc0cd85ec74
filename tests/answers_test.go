package tests

import (
	"math"
	"reflect"
	"slices"
	"strings"
	"testing"
	"unsafe"

	"loop.example/g00691/impl"
)

func texts() []string {
	return []string{
		"", "/", "a", "zzzzzz", "abcdefg", "A", "\xff", "/a", "/a/b", "/a/b/c/d", "/a/b/c/d/e", "//", "/a/",
		strings.Repeat("a", 1000000), strings.Repeat("/a", 500000), strings.Repeat("/", 1000000), strings.Repeat("\xff", 1000000),
	}
}

func lists() [][]string {
	return [][]string{
		nil, {}, {""}, {"a"}, {"a", "b"}, {"a", "b", "c", "d"}, {"a", "b", "c", "d", "e"}, {"A", "b"}, {"a", "\xff"},
		make([]string, 100000), {strings.Repeat("a", 1000000)},
	}
}

func numbers() []int64 {
	return []int64{math.MinInt64, -1, 0, 1, 4, 26, 27, 29, 16017, 32017, 159999999, greatestNameWord, 999999999999999, math.MaxInt64}
}

// answersOfAll asks each function of the first chapter at each of these arguments.
func answersOfAll() []any {
	var all []any
	for _, text := range texts() {
		all = append(all, impl.IsName(text), impl.NameWord(text), impl.PathNames(text))
	}
	for _, list := range lists() {
		all = append(all, impl.PathOf(list))
	}
	for _, n := range numbers() {
		all = append(all, impl.WordName(n), impl.WordHead(n))
		for _, m := range numbers() {
			for _, h := range []impl.Head{{Kind: n, Uid: m}, {Uid: n, Index: m}, {Index: n, Epoch: m}, {Kind: 2, Uid: n, Index: 1, Epoch: m}, {Kind: n, Uid: m, Index: n, Epoch: m}} {
				all = append(all, impl.HeadFault(h), impl.HeadWord(h))
			}
		}
	}
	return all
}

func TestTheSameArgumentsHaveTheSameAnswers(t *testing.T) {
	if !reflect.DeepEqual(answersOfAll(), answersOfAll()) {
		t.Error("two calls with the same arguments answer differently")
	}
}

func TestNoListIsChanged(t *testing.T) {
	for _, list := range lists() {
		whole := append(slices.Clone(list), "behind", "it")
		given := whole[:len(list)]
		before := slices.Clone(whole)
		impl.PathOf(given)
		if !slices.Equal(whole, before) {
			t.Errorf("PathOf changed its argument of %d names", len(list))
		}
	}
}

func TestEachAnswerIsNewMemory(t *testing.T) {
	first := impl.PathNames("/a/bc/def")
	for i := range first.Words {
		first.Words[i] = "changed"
	}
	second := impl.PathNames("/a/bc/def")
	if !slices.Equal(second.Words, []string{"a", "bc", "def"}) {
		t.Errorf("an answer that was changed is to be seen in the next one: %q", second.Words)
	}
}

func isInside(part string, whole string) bool {
	if len(part) == 0 || len(whole) == 0 {
		return false
	}
	at := uintptr(unsafe.Pointer(unsafe.StringData(part)))
	from := uintptr(unsafe.Pointer(unsafe.StringData(whole)))
	return at >= from && at < from+uintptr(len(whole))
}

func TestNoTextOfAnAnswerIsAPieceOfTheArgument(t *testing.T) {
	path := strings.Join([]string{"", "abc", "defghi"}, "/")
	for _, name := range impl.PathNames(path).Words {
		if isInside(name, path) {
			t.Errorf("the name %q is a piece of the path", name)
		}
	}
	name := strings.Repeat("ab", 3)
	if isInside(name, impl.PathOf([]string{name}).Text) {
		t.Error("the path has the name's memory")
	}
}

func TestBesideACodeAllElseIsZero(t *testing.T) {
	for _, answer := range answersOfAll() {
		value := reflect.ValueOf(answer)
		if value.Kind() != reflect.Struct || value.Field(0).Int() == 0 {
			continue
		}
		rest := value.Field(1)
		if !rest.IsZero() && !(rest.Kind() == reflect.Slice && rest.Len() == 0) {
			t.Errorf("beside a code there is %+v", answer)
		}
	}
}
