package tests

import (
	"slices"
	"strings"
	"testing"

	"loop.example/g00691/impl"
)

func checkPath(t *testing.T, names []string, path string) {
	t.Helper()
	if got := impl.PathOf(names); got != (impl.TextResult{Text: path}) {
		t.Fatalf("PathOf(%q) = %+v, want %q", names, got, path)
	}
	got := impl.PathNames(path)
	if got.Code != impl.OK || !slices.Equal(got.Words, names) {
		t.Fatalf("PathNames(%q) = %+v, want %q", path, got, names)
	}
	if again := impl.PathOf(got.Words); again != (impl.TextResult{Text: path}) {
		t.Fatalf("PathOf(PathNames(%q)) = %+v", path, again)
	}
}

// eachPath hands on each list of at most room more names behind names, with its path.
func eachPath(names []string, path string, room int, told func(names []string, path string)) {
	told(names, path)
	if room == 0 {
		return
	}
	for _, name := range []string{"a", "z", "ab", "ba", "mmm", "abcde", "zzzzzz"} {
		eachPath(append(slices.Clone(names), name), strings.TrimSuffix(path, "/")+"/"+name, room-1, told)
	}
}

func TestPathsAreToldBack(t *testing.T) {
	count := 0
	eachPath(nil, "/", impl.MaxDepth, func(names []string, path string) {
		count++
		checkPath(t, names, path)
	})
	if count != 1+7+49+343+2401 {
		t.Errorf("%d paths were tried", count)
	}
}

func TestTheRootHasNoNames(t *testing.T) {
	got := impl.PathNames("/")
	if got.Code != impl.OK || len(got.Words) != 0 {
		t.Errorf("PathNames(\"/\") = %+v", got)
	}
	for _, names := range [][]string{nil, {}} {
		if got := impl.PathOf(names); got != (impl.TextResult{Text: "/"}) {
			t.Errorf("PathOf(%#v) = %+v", names, got)
		}
	}
}

func TestWrongPaths(t *testing.T) {
	cases := []struct {
		path string
		code int64
	}{
		{"", impl.ErrText}, {"a", impl.ErrText}, {"abc", impl.ErrText}, {"a/", impl.ErrText}, {"a/b", impl.ErrText},
		{"//", impl.ErrText}, {"///", impl.ErrText}, {"//a", impl.ErrText}, {"/a/", impl.ErrText}, {"/a//b", impl.ErrText},
		{"/a/b/c/d/", impl.ErrText}, {"/a/b/c/d//", impl.ErrText}, {" /a", impl.ErrText}, {"/a ", impl.ErrText},
		{"/A", impl.ErrText}, {"/a/B", impl.ErrText}, {"/aaaaaaa", impl.ErrText}, {"/a/bbbbbbb", impl.ErrText},
		{"/.", impl.ErrText}, {"/..", impl.ErrText}, {"/a\n", impl.ErrText}, {"\\a", impl.ErrText},
		{"/\xff", impl.ErrText}, {"\xff", impl.ErrText}, {"/a/\xc3", impl.ErrText}, {"/ä", impl.ErrText}, {"\x2f\x00", impl.ErrText},
		{"/a/b/c/d", impl.OK}, {"/zzzzzz/zzzzzz/zzzzzz/zzzzzz", impl.OK},
		{"/a/b/c/d/e", impl.ErrMany}, {"/a/b/c/d/e/f", impl.ErrMany}, {"/zzzzzz/zzzzzz/zzzzzz/zzzzzz/zzzzzz", impl.ErrMany},
		{strings.Repeat("/a", 100000), impl.ErrMany},
		{"/a/b/c/d/E", impl.ErrText}, {"/a/b/c/d/e/", impl.ErrText}, {"/a/b/c/d/e/ggggggg", impl.ErrText}, {"/A/b/c/d/e", impl.ErrText},
		{strings.Repeat("/a", 100000) + "/", impl.ErrText}, {strings.Repeat("/", 100000), impl.ErrText}, {strings.Repeat("a", 100000), impl.ErrText},
	}
	for _, c := range cases {
		got := impl.PathNames(c.path)
		if got.Code != c.code || c.code != impl.OK && len(got.Words) != 0 {
			t.Errorf("PathNames(%.30q) = %+v, want the code %d", c.path, got, c.code)
		}
	}
}

func TestOneWrongByteIsNoPath(t *testing.T) {
	for b := range 256 {
		letter := b >= 'a' && b <= 'z'
		path := "/ab" + string([]byte{byte(b)}) + "cd"
		want := int64(impl.ErrText)
		if letter || b == '/' {
			want = impl.OK
		}
		if got := impl.PathNames(path); got.Code != want {
			t.Errorf("PathNames(%q) = %+v, want the code %d", path, got, want)
		}
	}
}

func TestWrongNamesOfAPath(t *testing.T) {
	for _, name := range notNames() {
		for place := range impl.MaxDepth {
			names := []string{"a", "b", "c", "d"}
			names[place] = name
			if got := impl.PathOf(names); got != (impl.TextResult{Code: impl.ErrText}) {
				t.Errorf("PathOf with %.20q at %d = %+v", name, place, got)
			}
		}
	}
}

func TestTooManyNamesOfAPath(t *testing.T) {
	lists := [][]string{
		{"a", "b", "c", "d", "e"},
		{"A", "", "/", "\xff", "aaaaaaa"},
		make([]string, 5),
		make([]string, 100000),
	}
	for _, names := range lists {
		if got := impl.PathOf(names); got != (impl.TextResult{Code: impl.ErrMany}) {
			t.Errorf("PathOf of %d names = %+v", len(names), got)
		}
	}
	if got := impl.PathOf(make([]string, 4)); got != (impl.TextResult{Code: impl.ErrText}) {
		t.Errorf("PathOf of four empty names = %+v", got)
	}
}
