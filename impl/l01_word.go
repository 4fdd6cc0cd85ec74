package impl

import "strings"

const OK = 0
const ErrForm = 1
const ErrMany = 2
const ErrRange = 3
const ErrNone = 4
const ErrText = 5
const ErrTaken = 6
const ErrFull = 7
const ErrState = 8
const MaxUid = 999
const MaxIndex = 3
const MaxEpoch = 9999
const MaxDepth = 4
const KindFree = 0
const KindNode = 1
const KindData = 2
const KindGone = 3

type IntResult struct {
	Code  int64
	Value int64
}
type IntsResult struct {
	Code int64
	List []int64
}
type TextResult struct {
	Code int64
	Text string
}
type TextsResult struct {
	Code  int64
	Words []string
}
type Head struct {
	Kind  int64
	Uid   int64
	Index int64
	Epoch int64
}
type HeadResult struct {
	Code int64
	Head Head
}

const wordBound = 1000000000000000

const nameBase = 27
const maxNameBytes = 6
const maxNameWord = nameBase*nameBase*nameBase*nameBase*nameBase*nameBase - 1

const kindStep = 4
const indexStep = 4
const uidStep = MaxUid + 1
const epochStep = kindStep * indexStep * uidStep

func IsName(name string) bool {
	if len(name) < 1 || len(name) > maxNameBytes {
		return false
	}
	for _, letter := range name {
		if letter < 'a' || letter > 'z' {
			return false
		}
	}
	return true
}

func NameWord(name string) IntResult {
	if !IsName(name) {
		return IntResult{Code: ErrText}
	}
	word := int64(0)
	for _, letter := range name {
		word = word*nameBase + int64(letter-'a') + 1
	}
	return IntResult{Value: word}
}

func WordName(word int64) TextResult {
	if word < 1 || word > maxNameWord {
		return TextResult{Code: ErrText}
	}
	name := ""
	for rest := word; rest > 0; rest /= nameBase {
		digit := rest % nameBase
		// No letter is the digit 0, so such a word is no name's.
		if digit == 0 {
			return TextResult{Code: ErrText}
		}
		name = string(rune('a'+digit-1)) + name
	}
	return TextResult{Text: name}
}

func PathNames(path string) TextsResult {
	if path == "/" {
		return TextsResult{}
	}
	rest, rooted := strings.CutPrefix(path, "/")
	if !rooted {
		return TextsResult{Code: ErrText}
	}
	names := strings.Split(rest, "/")
	// All names are asked ahead of their number: a path that is none has no depth.
	if !areNames(names) {
		return TextsResult{Code: ErrText}
	}
	if len(names) > MaxDepth {
		return TextsResult{Code: ErrMany}
	}
	// A piece of path would share its memory with the answer.
	for i, name := range names {
		names[i] = strings.Clone(name)
	}
	return TextsResult{Words: names}
}

func PathOf(names []string) TextResult {
	if len(names) > MaxDepth {
		return TextResult{Code: ErrMany}
	}
	if !areNames(names) {
		return TextResult{Code: ErrText}
	}
	return TextResult{Text: "/" + strings.Join(names, "/")}
}

func areNames(names []string) bool {
	for _, name := range names {
		if !IsName(name) {
			return false
		}
	}
	return true
}

func HeadFault(h Head) int64 {
	if h.Kind == KindFree && (h.Uid != 0 || h.Index != 0 || h.Epoch != 0) {
		return ErrRange
	}
	if h.Kind != KindFree && !isUsedHead(h) {
		return ErrRange
	}
	return OK
}

// isUsedHead: h is right as the head of a block that is not free.
func isUsedHead(h Head) bool {
	top := int64(0)
	if h.Kind == KindData {
		top = MaxIndex
	}
	return isWithin(h.Kind, KindNode, KindGone) &&
		isWithin(h.Uid, 1, MaxUid) &&
		isWithin(h.Index, 0, top) &&
		isWithin(h.Epoch, 1, MaxEpoch)
}

func isWithin(n int64, low int64, high int64) bool {
	return n >= low && n <= high
}

func isWord(n int64) bool {
	return isWithin(n, 0, wordBound-1)
}

func areWords(list []int64) bool {
	for _, n := range list {
		if !isWord(n) {
			return false
		}
	}
	return true
}

func HeadWord(h Head) IntResult {
	fault := HeadFault(h)
	if fault != OK {
		return IntResult{Code: fault}
	}
	return IntResult{Value: markWord(headMark(h))}
}

func WordHead(word int64) HeadResult {
	// Beyond these bounds a float would not tell the word exactly.
	if !isWithin(word, 0, epochStep*(MaxEpoch+1)-1) {
		return HeadResult{Code: ErrForm}
	}
	h := markHead(wordMark(word))
	if HeadFault(h) != OK {
		return HeadResult{Code: ErrForm}
	}
	return HeadResult{Head: h}
}

// headMark: what the block is (and whose) is the real part, when it was written the imaginary one.
// Both are small whole numbers of a head without fault, so the floats are exact.
func headMark(h Head) complex128 {
	what := h.Kind + kindStep*(h.Index+indexStep*h.Uid)
	return complex(float64(what), float64(h.Epoch))
}

func markHead(mark complex128) Head {
	what := int64(real(mark))
	return Head{
		Kind:  what % kindStep,
		Index: what / kindStep % indexStep,
		Uid:   what / (kindStep * indexStep),
		Epoch: int64(imag(mark)),
	}
}

func markWord(mark complex128) int64 {
	return int64(real(mark)) + epochStep*int64(imag(mark))
}

func wordMark(word int64) complex128 {
	return complex(float64(word%epochStep), float64(word/epochStep))
}
