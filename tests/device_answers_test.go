package tests

import (
	"math"
	"math/rand"
	"reflect"
	"slices"
	"testing"
	"unsafe"

	"loop.example/g00691/impl"
)

// span: where the memory of a list begins and ends, with what is kept free behind it.
// reach is where a list stands in memory; a pointer, since what a number alone tells of may be given away meanwhile.
type reach struct {
	from  unsafe.Pointer
	bytes uintptr
}

func span[E any](list []E) reach {
	var none E
	return reach{unsafe.Pointer(unsafe.SliceData(list)), uintptr(cap(list)) * unsafe.Sizeof(none)}
}

func spansOf(d impl.Device) []reach {
	return []reach{span(d.Words), span(d.Flights), span(d.Over)}
}

func overlap(a reach, b reach) bool {
	return uintptr(a.from) < uintptr(b.from)+b.bytes && uintptr(b.from) < uintptr(a.from)+a.bytes
}

func checkNewMemory(t *testing.T, what string, answer impl.Device, given []reach) {
	t.Helper()
	spans := spansOf(answer)
	for i, a := range spans {
		for _, b := range given {
			if overlap(a, b) {
				t.Errorf("%s: the list number %d of the answer shares memory with an argument", what, i)
			}
		}
		for _, b := range spans[:i] {
			if overlap(a, b) {
				t.Errorf("%s: the list number %d of the answer shares memory with another one", what, i)
			}
		}
	}
}

// roomy has free places behind each list, where a careless append would write.
func roomy[E any](list []E, free E) []E {
	return append(slices.Clone(list), free, free, free, free)
}

type askedDevice struct {
	device impl.Device
	fates  []int64
	acts   []impl.Act
}

func (a askedDevice) copied() askedDevice {
	return askedDevice{copyOf(a.device), slices.Clone(a.fates), slices.Clone(a.acts)}
}

func (a askedDevice) same(b askedDevice) bool {
	return sameLists(a.device, b.device) && slices.Equal(a.fates, b.fates) && slices.Equal(a.acts, b.acts)
}

// deviceAnswers asks each function that answers a device, at these places.
func deviceAnswers(a askedDevice, at int64, value int64) map[string]impl.DeviceResult {
	return map[string]impl.DeviceResult{
		"NewDevice":   impl.NewDevice(at),
		"StoreWord":   impl.StoreWord(a.device, at, value),
		"FlushLine":   impl.FlushLine(a.device, at),
		"FenceDevice": impl.FenceDevice(a.device),
		"EvictWord":   impl.EvictWord(a.device, at),
		"CrashDevice": impl.CrashDevice(a.device, a.fates),
		"DoActs":      impl.DoActs(a.device, a.acts),
	}
}

func askedDevices() []askedDevice {
	r := rand.New(rand.NewSource(11))
	var list []askedDevice
	for range 40 {
		d := anyDevice(r)
		list = append(list, askedDevice{d, anyFates(r, len(d.Flights)+len(d.Over)), anyActs(r, len(d.Words), r.Intn(30))})
		list = append(list, askedDevice{device: d})
	}
	for _, f := range faultyDevices() {
		list = append(list, askedDevice{device: f.device, fates: []int64{0}, acts: []impl.Act{{Kind: 1}}})
	}
	return list
}

func places() []int64 {
	return []int64{math.MinInt64, math.MinInt64 + 1, -1, 0, 1, 2, 7, 8, 15, 16, 41, noWord - 1, noWord, math.MaxInt64 - 1, math.MaxInt64}
}

func TestNoArgumentOfADeviceFunctionIsChanged(t *testing.T) {
	for _, asked := range askedDevices() {
		whole := askedDevice{
			impl.Device{Words: roomy(asked.device.Words, -5), Flights: roomy(asked.device.Flights, impl.Cell{At: -5}), Over: roomy(asked.device.Over, impl.Cell{At: -6})},
			roomy(asked.fates, -7), roomy(asked.acts, impl.Act{Kind: -8}),
		}
		given := askedDevice{
			impl.Device{Words: whole.device.Words[:len(asked.device.Words)], Flights: whole.device.Flights[:len(asked.device.Flights)], Over: whole.device.Over[:len(asked.device.Over)]},
			whole.fates[:len(asked.fates)], whole.acts[:len(asked.acts)],
		}
		before := whole.copied()
		for _, at := range places() {
			deviceAnswers(given, at, at)
			impl.LoadWord(given.device, at)
		}
		impl.DeviceFault(given.device)
		impl.SameDevices(given.device, given.device)
		if !whole.same(before) {
			t.Fatalf("an argument was changed:\n%+v\nwas\n%+v", whole, before)
		}
	}
}

func TestEachDeviceThatIsAnsweredIsNewMemory(t *testing.T) {
	for _, asked := range askedDevices() {
		spans := append(spansOf(asked.device), span(asked.fates), span(asked.acts))
		for _, at := range places() {
			for what, answer := range deviceAnswers(asked, at, 5) {
				checkNewMemory(t, what, answer.Device, spans)
			}
		}
	}
}

func scribble(d impl.Device) {
	for i := range d.Words {
		d.Words[i] = -1
	}
	for i := range d.Flights {
		d.Flights[i] = impl.Cell{At: -1, Value: -1}
	}
	for i := range d.Over {
		d.Over[i] = impl.Cell{At: -1, Value: -1}
	}
}

func TestAnAnswerThatIsWrittenOverIsNotSeenInTheNextOne(t *testing.T) {
	for _, asked := range askedDevices() {
		for _, at := range places() {
			first := deviceAnswers(asked, at, 5)
			kept := map[string]impl.DeviceResult{}
			for what, answer := range first {
				kept[what] = impl.DeviceResult{Code: answer.Code, Device: copyOf(answer.Device)}
				scribble(answer.Device)
			}
			for what, answer := range deviceAnswers(asked, at, 5) {
				checkDevice(t, what, asked.device, answer, kept[what])
			}
		}
	}
}

func TestAnswersOfDevicesHangOnTheArgumentsAlone(t *testing.T) {
	for _, asked := range askedDevices() {
		other := asked.copied()
		for _, at := range places() {
			if !reflect.DeepEqual(deviceAnswers(asked, at, at), deviceAnswers(other, at, at)) {
				t.Fatalf("two calls with the same arguments answer differently: %+v", asked)
			}
			if impl.LoadWord(asked.device, at) != impl.LoadWord(other.device, at) {
				t.Fatalf("two loads of the same word answer differently: %+v", asked)
			}
		}
		if impl.DeviceFault(asked.device) != impl.DeviceFault(other.device) {
			t.Fatalf("two faults of the same device differ: %+v", asked)
		}
	}
}

func TestAnEmptyListOfADeviceIsNil(t *testing.T) {
	withNil := askedDevice{device: impl.Device{Words: wordsOf(16)}}
	withEmpty := askedDevice{impl.Device{Words: wordsOf(16), Flights: []impl.Cell{}, Over: []impl.Cell{}}, []int64{}, []impl.Act{}}
	for _, at := range places() {
		got := deviceAnswers(withEmpty, at, at)
		for what, want := range deviceAnswers(withNil, at, at) {
			checkDevice(t, what, withEmpty.device, got[what], want)
		}
		if impl.LoadWord(withNil.device, at) != impl.LoadWord(withEmpty.device, at) {
			t.Errorf("LoadWord %d differs", at)
		}
	}
	if !impl.SameDevices(withNil.device, withEmpty.device) || impl.DeviceFault(withNil.device) != impl.DeviceFault(withEmpty.device) {
		t.Error("an empty list and nil are not the same")
	}
}

func TestTheLeastAndTheGreatestNumbersAreAnswered(t *testing.T) {
	ends := []int64{math.MinInt64, math.MaxInt64}
	for _, a := range ends {
		for _, b := range ends {
			d := impl.Device{Words: slices.Repeat([]int64{a}, 16), Flights: []impl.Cell{{At: a, Value: b}}, Over: []impl.Cell{{At: b, Value: a}}}
			checkDeviceAt(t, d, ends)
			d.Words = wordsOf(16)
			checkDeviceAt(t, d, ends)
			d.Flights, d.Over = nil, nil
			checkDeviceAt(t, d, ends)
			acts := []impl.Act{{Kind: a, At: b, Value: a}, {Kind: 1, At: a, Value: b}}
			checkDevice(t, "DoActs", d, impl.DoActs(d, acts), actsByRule(d, acts))
			checkDevice(t, "DoActs", d, impl.DoActs(d, acts[1:]), actsByRule(d, acts[1:]))
		}
	}
}
