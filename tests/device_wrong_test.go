package tests

import (
	"math"
	"slices"
	"testing"

	"loop.example/g00691/impl"
)

func wordsOf(many int) []int64 {
	return make([]int64, many)
}

func withWord(at int, value int64) impl.Device {
	d := impl.Device{Words: wordsOf(24)}
	d.Words[at] = value
	return d
}

func withFlights(cells ...impl.Cell) impl.Device {
	return impl.Device{Words: wordsOf(24), Flights: cells}
}

func withOver(cells ...impl.Cell) impl.Device {
	return impl.Device{Words: wordsOf(24), Over: cells}
}

type faulty struct {
	what   string
	device impl.Device
	code   int64
}

func faultyCells(what string, with func(cells ...impl.Cell) impl.Device) []faulty {
	return []faulty{
		{what + ": At -1", with(impl.Cell{At: -1}), impl.ErrRange},
		{what + ": At the number of words", with(impl.Cell{At: 24}), impl.ErrRange},
		{what + ": the least At", with(impl.Cell{At: math.MinInt64}), impl.ErrRange},
		{what + ": the greatest At", with(impl.Cell{At: math.MaxInt64}), impl.ErrRange},
		{what + ": Value -1", with(impl.Cell{Value: -1}), impl.ErrRange},
		{what + ": Value no word", with(impl.Cell{Value: noWord}), impl.ErrRange},
		{what + ": the least Value", with(impl.Cell{Value: math.MinInt64}), impl.ErrRange},
		{what + ": the greatest Value", with(impl.Cell{Value: math.MaxInt64}), impl.ErrRange},
		{what + ": the last cell's Value", with(impl.Cell{At: 1}, impl.Cell{At: 2}, impl.Cell{At: 3, Value: noWord}), impl.ErrRange},
		{what + ": the same At", with(impl.Cell{At: 5, Value: 1}, impl.Cell{At: 5, Value: 2}), impl.ErrTaken},
		{what + ": the same cell", with(impl.Cell{At: 5, Value: 1}, impl.Cell{At: 5, Value: 1}), impl.ErrTaken},
		{what + ": the same At, others between", with(impl.Cell{At: 23}, impl.Cell{At: 4}, impl.Cell{At: 0}, impl.Cell{At: 23}), impl.ErrTaken},
		{what + ": the same At ahead of a bound", with(impl.Cell{At: 5}, impl.Cell{At: 5}, impl.Cell{At: 24}), impl.ErrRange},
		{what + ": the same At ahead of a Value", with(impl.Cell{At: 5}, impl.Cell{At: 5}, impl.Cell{At: 6, Value: -1}), impl.ErrRange},
		{what + ": more cells than words", with(make([]impl.Cell, 100000)...), impl.ErrTaken},
	}
}

func faultyDevices() []faulty {
	list := []faulty{
		{"no lines", impl.Device{}, impl.ErrMany},
		{"empty lists", impl.Device{Words: []int64{}, Flights: []impl.Cell{}, Over: []impl.Cell{}}, impl.ErrMany},
		{"one line", impl.Device{Words: wordsOf(8)}, impl.ErrMany},
		{"42 lines", impl.Device{Words: wordsOf(336)}, impl.ErrMany},
		{"too many lines", impl.Device{Words: wordsOf(80000)}, impl.ErrMany},
		{"no whole line", impl.Device{Words: wordsOf(1)}, impl.ErrMany},
		{"a word below two lines", impl.Device{Words: wordsOf(15)}, impl.ErrMany},
		{"a word beyond two lines", impl.Device{Words: wordsOf(17)}, impl.ErrMany},
		{"a word below three lines", impl.Device{Words: wordsOf(23)}, impl.ErrMany},
		{"a word below 41 lines", impl.Device{Words: wordsOf(327)}, impl.ErrMany},
		{"a word beyond 41 lines", impl.Device{Words: wordsOf(329)}, impl.ErrMany},
		{"a word below 0", withWord(0, -1), impl.ErrRange},
		{"the last word below 0", withWord(23, -1), impl.ErrRange},
		{"no word", withWord(7, noWord), impl.ErrRange},
		{"the last one no word", withWord(23, noWord), impl.ErrRange},
		{"the least number", withWord(8, math.MinInt64), impl.ErrRange},
		{"the greatest number", withWord(8, math.MaxInt64), impl.ErrRange},
		{"too few words, and no words", impl.Device{Words: []int64{-1}}, impl.ErrMany},
		{"too few words, and wrong cells", impl.Device{Flights: []impl.Cell{{At: -1}}, Over: []impl.Cell{{}, {}}}, impl.ErrMany},
	}
	twice := withFlights(impl.Cell{At: 1}, impl.Cell{At: 1})
	twice.Words[23] = -1
	list = append(list, faulty{"a cell twice, and no word", twice, impl.ErrRange})
	late := withFlights(impl.Cell{At: 1}, impl.Cell{At: 1})
	late.Over = []impl.Cell{{At: 2, Value: noWord}}
	list = append(list, faulty{"a cell twice in Flights, and a wrong one in Over", late, impl.ErrRange})
	list = append(list, faultyCells("Flights", withFlights)...)
	return append(list, faultyCells("Over", withOver)...)
}

func TestDeviceFaults(t *testing.T) {
	for _, f := range faultyDevices() {
		if got := impl.DeviceFault(f.device); got != f.code {
			t.Errorf("%s: the fault is %d, want %d", f.what, got, f.code)
		}
		if got := faultByRule(f.device); got != f.code {
			t.Errorf("%s: by rule the fault is %d, want %d", f.what, got, f.code)
		}
	}
}

func TestDevicesWithoutFault(t *testing.T) {
	full := impl.Device{Words: slices.Repeat([]int64{noWord - 1}, 328)}
	for at := range int64(328) {
		full.Flights = append(full.Flights, impl.Cell{At: at, Value: noWord - 1})
		full.Over = append(full.Over, impl.Cell{At: 327 - at})
	}
	list := []impl.Device{
		{Words: wordsOf(16)}, {Words: wordsOf(24)}, {Words: wordsOf(328)}, full,
		{Words: wordsOf(16), Flights: []impl.Cell{{At: 5}}, Over: []impl.Cell{{At: 5}}},
		{Words: wordsOf(16), Flights: []impl.Cell{{At: 5}, {At: 15}}, Over: []impl.Cell{{At: 15}, {At: 5}}},
	}
	for _, d := range list {
		if got := impl.DeviceFault(d); got != impl.OK {
			t.Errorf("the fault of a device of %d words is %d", len(d.Words), got)
		}
	}
}

// codesOf asks all that takes a device; the other arguments have a code of their own, where one can.
func codesOf(d impl.Device) []impl.DeviceResult {
	return []impl.DeviceResult{
		impl.StoreWord(d, 0, 0), impl.StoreWord(d, -1, -1), impl.StoreWord(d, math.MaxInt64, math.MaxInt64),
		impl.FlushLine(d, 0), impl.FlushLine(d, -1), impl.FenceDevice(d),
		impl.EvictWord(d, 0), impl.EvictWord(d, -1), impl.EvictWord(d, 22),
		impl.CrashDevice(d, nil), impl.CrashDevice(d, []int64{2}), impl.CrashDevice(d, make([]int64, len(d.Flights)+len(d.Over))),
		impl.DoActs(d, nil), impl.DoActs(d, []impl.Act{{Kind: 4}}), impl.DoActs(d, make([]impl.Act, 501)),
	}
}

func TestTheFaultOfADeviceIsAskedFirst(t *testing.T) {
	for _, f := range faultyDevices() {
		for i, got := range codesOf(f.device) {
			if got.Code != f.code || !sameLists(got.Device, impl.Device{}) {
				t.Errorf("%s: the answer number %d is %+v, want the code %d", f.what, i, got, f.code)
			}
		}
		for _, at := range []int64{0, -1, math.MaxInt64} {
			if got := impl.LoadWord(f.device, at); got != (impl.IntResult{Code: f.code}) {
				t.Errorf("%s: LoadWord %d = %+v, want the code %d", f.what, at, got, f.code)
			}
		}
	}
}

func TestWrongNumbersOfLines(t *testing.T) {
	for _, lines := range []int64{math.MinInt64, -1, 0, 1, 42, 43, 328, math.MaxInt64 / 8, math.MaxInt64/8 + 3, math.MaxInt64} {
		if got := impl.NewDevice(lines); got.Code != impl.ErrMany || !sameLists(got.Device, impl.Device{}) {
			t.Errorf("NewDevice(%d) = %+v", lines, got)
		}
	}
}

func checkCode(t *testing.T, what string, got impl.DeviceResult, code int64) {
	t.Helper()
	if got.Code != code || !sameLists(got.Device, impl.Device{}) {
		t.Errorf("%s = %+v, want the code %d", what, got, code)
	}
}

func beyond(many int64) []int64 {
	return []int64{math.MinInt64, -8, -1, many, many + 1, many + 8, math.MaxInt64}
}

func TestWordsAndLinesBeyondTheirBounds(t *testing.T) {
	d := inBoth(t)
	for _, at := range beyond(16) {
		if got := impl.LoadWord(d, at); got != (impl.IntResult{Code: impl.ErrRange}) {
			t.Errorf("LoadWord %d = %+v", at, got)
		}
		checkCode(t, "StoreWord", impl.StoreWord(d, at, 0), impl.ErrRange)
		checkCode(t, "EvictWord", impl.EvictWord(d, at), impl.ErrRange)
	}
	for _, line := range beyond(2) {
		checkCode(t, "FlushLine", impl.FlushLine(d, line), impl.ErrRange)
	}
	for _, value := range beyond(noWord) {
		checkCode(t, "StoreWord", impl.StoreWord(d, 0, value), impl.ErrRange)
	}
	for at := range int64(16) {
		if at != 0 && at != 3 && at != 8 && at != 9 {
			checkCode(t, "EvictWord", impl.EvictWord(d, at), impl.ErrNone)
		}
	}
}

func TestWrongFates(t *testing.T) {
	d := inBoth(t)
	for many := range 13 {
		fates := make([]int64, many)
		wrong := slices.Repeat([]int64{2}, many)
		if many != 6 {
			checkCode(t, "CrashDevice by too few or too many fates", impl.CrashDevice(d, fates), impl.ErrMany)
			checkCode(t, "CrashDevice by too few or too many wrong fates", impl.CrashDevice(d, wrong), impl.ErrMany)
		}
	}
	for place := range 6 {
		for _, fate := range []int64{math.MinInt64, -1, 2, 3, math.MaxInt64} {
			fates := []int64{1, 0, 1, 0, 1, 0}
			fates[place] = fate
			checkCode(t, "CrashDevice by a wrong fate", impl.CrashDevice(d, fates), impl.ErrRange)
		}
	}
	checkCode(t, "CrashDevice without cells", impl.CrashDevice(newDevice(t, 2), []int64{0}), impl.ErrMany)
}

func TestWrongActs(t *testing.T) {
	d := inBoth(t)
	cases := []struct {
		act  impl.Act
		code int64
	}{
		{impl.Act{}, impl.ErrForm},
		{impl.Act{Kind: 4}, impl.ErrForm},
		{impl.Act{Kind: -1}, impl.ErrForm},
		{impl.Act{Kind: math.MinInt64}, impl.ErrForm},
		{impl.Act{Kind: math.MaxInt64}, impl.ErrForm},
		{impl.Act{Kind: 4, At: -1, Value: -1}, impl.ErrForm},
		{impl.Act{Kind: impl.ActFlush, Value: 1}, impl.ErrForm},
		{impl.Act{Kind: impl.ActFlush, Value: -1}, impl.ErrForm},
		{impl.Act{Kind: impl.ActFlush, At: 2, Value: 1}, impl.ErrForm},
		{impl.Act{Kind: impl.ActFence, At: 1}, impl.ErrForm},
		{impl.Act{Kind: impl.ActFence, At: -1}, impl.ErrForm},
		{impl.Act{Kind: impl.ActFence, Value: 1}, impl.ErrForm},
		{impl.Act{Kind: impl.ActFence, At: 1, Value: 1}, impl.ErrForm},
		{impl.Act{Kind: impl.ActStore, At: -1}, impl.ErrRange},
		{impl.Act{Kind: impl.ActStore, At: 16}, impl.ErrRange},
		{impl.Act{Kind: impl.ActStore, At: math.MaxInt64}, impl.ErrRange},
		{impl.Act{Kind: impl.ActStore, Value: -1}, impl.ErrRange},
		{impl.Act{Kind: impl.ActStore, Value: noWord}, impl.ErrRange},
		{impl.Act{Kind: impl.ActStore, Value: math.MinInt64}, impl.ErrRange},
		{impl.Act{Kind: impl.ActFlush, At: -1}, impl.ErrRange},
		{impl.Act{Kind: impl.ActFlush, At: 2}, impl.ErrRange},
		{impl.Act{Kind: impl.ActFlush, At: math.MinInt64}, impl.ErrRange},
	}
	store := impl.Act{Kind: impl.ActStore, At: 1, Value: 1}
	for _, c := range cases {
		checkCode(t, "DoActs of one wrong act", impl.DoActs(d, []impl.Act{c.act}), c.code)
		checkCode(t, "DoActs of a wrong act ahead of a right one", impl.DoActs(d, []impl.Act{c.act, store}), c.code)
		checkCode(t, "DoActs of a wrong act behind a right one", impl.DoActs(d, []impl.Act{store, c.act}), c.code)
		for _, other := range cases {
			checkCode(t, "DoActs of two wrong acts", impl.DoActs(d, []impl.Act{store, c.act, other.act}), c.code)
		}
	}
}

func TestTheNumberOfActs(t *testing.T) {
	d := newDevice(t, 2)
	acts := make([]impl.Act, 501)
	for i := range acts {
		acts[i] = impl.Act{Kind: impl.ActStore, At: 3, Value: int64(i + 1)}
	}
	most := right(t, impl.DoActs(d, acts[:500]))
	checkLists(t, most, nil, []impl.Cell{{At: 3, Value: 500}})
	checkCode(t, "DoActs of 501", impl.DoActs(d, acts), impl.ErrMany)
	acts[0] = impl.Act{Kind: 4}
	checkCode(t, "DoActs of 501, the first one wrong", impl.DoActs(d, acts), impl.ErrMany)
	checkCode(t, "DoActs of 500, the first one wrong", impl.DoActs(d, acts[:500]), impl.ErrForm)
	acts[0] = impl.Act{Kind: impl.ActFence}
	acts[499] = impl.Act{Kind: impl.ActFlush, At: 2}
	checkCode(t, "DoActs of 500, the last one wrong", impl.DoActs(d, acts[:500]), impl.ErrRange)
	checkCode(t, "DoActs of very many", impl.DoActs(d, make([]impl.Act, 100000)), impl.ErrMany)
}
