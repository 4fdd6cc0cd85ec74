package tests

import (
	"math/rand"
	"slices"
	"testing"

	"loop.example/g00691/impl"
)

// The device once more, by searching its lists as the document tells it, to hold the program's answers against.

const noWord = 1000000000000000

func placeOf(cells []impl.Cell, at int64) int {
	return slices.IndexFunc(cells, func(c impl.Cell) bool { return c.At == at })
}

func hasTwice(cells []impl.Cell) bool {
	for i, c := range cells {
		if placeOf(cells, c.At) != i {
			return true
		}
	}
	return false
}

func faultByRule(d impl.Device) int64 {
	n := int64(len(d.Words))
	if n < 16 || n > 328 || n%8 != 0 {
		return impl.ErrMany
	}
	for _, w := range d.Words {
		if w < 0 || w >= noWord {
			return impl.ErrRange
		}
	}
	for _, c := range slices.Concat(d.Flights, d.Over) {
		if c.At < 0 || c.At >= n || c.Value < 0 || c.Value >= noWord {
			return impl.ErrRange
		}
	}
	if hasTwice(d.Flights) || hasTwice(d.Over) {
		return impl.ErrTaken
	}
	return 0
}

func copyOf(d impl.Device) impl.Device {
	return impl.Device{Words: slices.Clone(d.Words), Flights: slices.Clone(d.Flights), Over: slices.Clone(d.Over)}
}

func loadByRule(d impl.Device, at int64) impl.IntResult {
	if code := faultByRule(d); code != 0 {
		return impl.IntResult{Code: code}
	}
	if at < 0 || at >= int64(len(d.Words)) {
		return impl.IntResult{Code: impl.ErrRange}
	}
	if i := placeOf(d.Over, at); i >= 0 {
		return impl.IntResult{Value: d.Over[i].Value}
	}
	if i := placeOf(d.Flights, at); i >= 0 {
		return impl.IntResult{Value: d.Flights[i].Value}
	}
	return impl.IntResult{Value: d.Words[at]}
}

func putByRule(cells []impl.Cell, c impl.Cell) []impl.Cell {
	if i := placeOf(cells, c.At); i >= 0 {
		cells[i] = c
		return cells
	}
	return append(cells, c)
}

func storeByRule(given impl.Device, at int64, value int64) impl.DeviceResult {
	if code := loadByRule(given, at).Code; code != 0 {
		return impl.DeviceResult{Code: code}
	}
	if value < 0 || value >= noWord {
		return impl.DeviceResult{Code: impl.ErrRange}
	}
	d := copyOf(given)
	d.Over = putByRule(d.Over, impl.Cell{At: at, Value: value})
	return impl.DeviceResult{Device: d}
}

func flushByRule(given impl.Device, line int64) impl.DeviceResult {
	if code := faultByRule(given); code != 0 {
		return impl.DeviceResult{Code: code}
	}
	if line < 0 || line >= int64(len(given.Words))/8 {
		return impl.DeviceResult{Code: impl.ErrRange}
	}
	d := copyOf(given)
	d.Over = nil
	for _, c := range given.Over {
		if c.At >= 8*line && c.At <= 8*line+7 {
			d.Flights = putByRule(d.Flights, c)
		} else {
			d.Over = append(d.Over, c)
		}
	}
	return impl.DeviceResult{Device: d}
}

func fenceByRule(given impl.Device) impl.DeviceResult {
	if code := faultByRule(given); code != 0 {
		return impl.DeviceResult{Code: code}
	}
	d := copyOf(given)
	for _, c := range given.Flights {
		d.Words[c.At] = c.Value
	}
	d.Flights = nil
	return impl.DeviceResult{Device: d}
}

func evictByRule(given impl.Device, at int64) impl.DeviceResult {
	load := loadByRule(given, at)
	if load.Code != 0 {
		return impl.DeviceResult{Code: load.Code}
	}
	if placeOf(given.Flights, at) < 0 && placeOf(given.Over, at) < 0 {
		return impl.DeviceResult{Code: impl.ErrNone}
	}
	d := copyOf(given)
	d.Words[at] = load.Value
	isHere := func(c impl.Cell) bool { return c.At == at }
	d.Flights = slices.DeleteFunc(d.Flights, isHere)
	d.Over = slices.DeleteFunc(d.Over, isHere)
	return impl.DeviceResult{Device: d}
}

func crashByRule(given impl.Device, fates []int64) impl.DeviceResult {
	if code := faultByRule(given); code != 0 {
		return impl.DeviceResult{Code: code}
	}
	if len(fates) != len(given.Flights)+len(given.Over) {
		return impl.DeviceResult{Code: impl.ErrMany}
	}
	for _, fate := range fates {
		if fate != 0 && fate != 1 {
			return impl.DeviceResult{Code: impl.ErrRange}
		}
	}
	words := slices.Clone(given.Words)
	for i, c := range given.Flights {
		if fates[i] == 1 {
			words[c.At] = c.Value
		}
	}
	for i, c := range given.Over {
		if fates[len(given.Flights)+i] == 1 {
			words[c.At] = c.Value
		}
	}
	return impl.DeviceResult{Device: impl.Device{Words: words}}
}

func actsByRule(given impl.Device, acts []impl.Act) impl.DeviceResult {
	if code := faultByRule(given); code != 0 {
		return impl.DeviceResult{Code: code}
	}
	if len(acts) > 500 {
		return impl.DeviceResult{Code: impl.ErrMany}
	}
	answer := impl.DeviceResult{Device: given}
	for _, a := range acts {
		if a.Kind < 1 || a.Kind > 3 || a.Kind != 1 && a.Value != 0 || a.Kind == 3 && a.At != 0 {
			return impl.DeviceResult{Code: impl.ErrForm}
		}
		switch a.Kind {
		case 1:
			answer = storeByRule(answer.Device, a.At, a.Value)
		case 2:
			answer = flushByRule(answer.Device, a.At)
		case 3:
			answer = fenceByRule(answer.Device)
		}
		if answer.Code != 0 {
			return answer
		}
	}
	return answer
}

func sameLists(a impl.Device, b impl.Device) bool {
	return slices.Equal(a.Words, b.Words) && slices.Equal(a.Flights, b.Flights) && slices.Equal(a.Over, b.Over)
}

func checkDevice(t *testing.T, what string, given impl.Device, got impl.DeviceResult, want impl.DeviceResult) {
	t.Helper()
	if got.Code != want.Code || !sameLists(got.Device, want.Device) {
		t.Fatalf("%s of %+v\n= %+v\nwant %+v", what, given, got, want)
	}
}

// checkDeviceAt asks all that can be asked of one device, within its bounds and a little beyond.
func checkDeviceAt(t *testing.T, d impl.Device, values []int64) {
	t.Helper()
	if got, want := impl.DeviceFault(d), faultByRule(d); got != want {
		t.Fatalf("DeviceFault of %+v = %d, want %d", d, got, want)
	}
	for at := int64(-2); at <= int64(len(d.Words))+1; at++ {
		if got, want := impl.LoadWord(d, at), loadByRule(d, at); got != want {
			t.Fatalf("LoadWord %d of %+v = %+v, want %+v", at, d, got, want)
		}
		for _, value := range values {
			checkDevice(t, "StoreWord", d, impl.StoreWord(d, at, value), storeByRule(d, at, value))
		}
		checkDevice(t, "EvictWord", d, impl.EvictWord(d, at), evictByRule(d, at))
	}
	for line := int64(-2); line <= int64(len(d.Words))/8+1; line++ {
		checkDevice(t, "FlushLine", d, impl.FlushLine(d, line), flushByRule(d, line))
	}
	checkDevice(t, "FenceDevice", d, impl.FenceDevice(d), fenceByRule(d))
}

func anyCells(r *rand.Rand, words int, many int) []impl.Cell {
	var cells []impl.Cell
	for _, at := range r.Perm(words)[:min(many, words)] {
		cells = append(cells, impl.Cell{At: int64(at), Value: r.Int63n(noWord)})
	}
	return cells
}

func anyDevice(r *rand.Rand) impl.Device {
	words := make([]int64, 8*(2+r.Intn(3)))
	for i := range words {
		words[i] = r.Int63n(noWord)
	}
	return impl.Device{Words: words, Flights: anyCells(r, len(words), r.Intn(12)), Over: anyCells(r, len(words), r.Intn(12))}
}

func anyFates(r *rand.Rand, many int) []int64 {
	fates := make([]int64, many)
	for i := range fates {
		fates[i] = int64(r.Intn(2))
	}
	return fates
}

func TestAnyDeviceAnswersAsTheDocumentTells(t *testing.T) {
	r := rand.New(rand.NewSource(2))
	for range 300 {
		d := anyDevice(r)
		checkDeviceAt(t, d, []int64{0, r.Int63n(noWord), noWord - 1, noWord, -1})
		cells := len(d.Flights) + len(d.Over)
		for range 20 {
			fates := anyFates(r, cells)
			checkDevice(t, "CrashDevice", d, impl.CrashDevice(d, fates), crashByRule(d, fates))
		}
	}
}

func anyAct(r *rand.Rand, words int) impl.Act {
	switch r.Intn(8) {
	case 0:
		return impl.Act{Kind: impl.ActFence}
	case 1, 2:
		return impl.Act{Kind: impl.ActFlush, At: int64(r.Intn(words / 8))}
	}
	return impl.Act{Kind: impl.ActStore, At: int64(r.Intn(words)), Value: r.Int63n(50)}
}

func anyActs(r *rand.Rand, words int, many int) []impl.Act {
	acts := make([]impl.Act, many)
	for i := range acts {
		acts[i] = anyAct(r, words)
	}
	return acts
}

func TestAnyActsAnswerAsTheDocumentTells(t *testing.T) {
	r := rand.New(rand.NewSource(3))
	for range 300 {
		d := anyDevice(r)
		acts := anyActs(r, len(d.Words), r.Intn(60))
		checkDevice(t, "DoActs", d, impl.DoActs(d, acts), actsByRule(d, acts))
	}
}

func TestAnyWrongActAmongOthersAnswersAsTheDocumentTells(t *testing.T) {
	r := rand.New(rand.NewSource(4))
	for range 300 {
		d := anyDevice(r)
		acts := anyActs(r, len(d.Words), 10)
		for range 2 {
			acts[r.Intn(10)] = impl.Act{Kind: r.Int63n(6) - 1, At: r.Int63n(40) - 4, Value: r.Int63n(3) - 1}
		}
		checkDevice(t, "DoActs", d, impl.DoActs(d, acts), actsByRule(d, acts))
	}
}
