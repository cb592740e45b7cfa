package tests

import (
	"math"
	"slices"
	"strings"
	"sync"
	"testing"

	"loop.example/wardstaff/impl"
)

// books lists all valid counters.
func books() []impl.Book {
	var list []impl.Book
	for safe := 0; safe <= 60; safe++ {
		for next := 0; next <= safe; next++ {
			list = append(list, impl.Book{Next: next, Safe: safe})
		}
	}
	return list
}

// outsideBooks lists counters that are not valid, by one limit each and by several.
func outsideBooks() []impl.Book {
	list := []impl.Book{
		{Next: -1}, {Next: -1, Safe: -1}, {Next: -1, Safe: 4}, {Next: -1, Safe: 60}, {Next: -4, Safe: 8}, {Next: 0, Safe: -1},
		{Next: 1}, {Next: 5, Safe: 4}, {Next: 8, Safe: 4}, {Next: 60, Safe: 59}, {Next: 61, Safe: 60},
		{Next: 0, Safe: 61}, {Next: 57, Safe: 61}, {Next: 60, Safe: 61}, {Next: 61, Safe: 61}, {Next: 61, Safe: 64}, {Next: 64, Safe: 64}, {Next: 62, Safe: 61},
	}
	for _, far := range []int{math.MinInt, math.MinInt + 1, math.MaxInt - 1, math.MaxInt, math.MaxInt - 3, math.MinInt32, math.MaxInt32} {
		list = append(list, impl.Book{Next: far, Safe: 4}, impl.Book{Next: 0, Safe: far}, impl.Book{Next: far, Safe: far})
		list = append(list, impl.Book{Next: math.MinInt, Safe: far}, impl.Book{Next: far, Safe: math.MaxInt})
	}
	return list
}

// ledger is a counter that lists its numbers, made without the program: those reserved that may still be issued, and how many were ever reserved.
type ledger struct {
	ready    []int
	reserved int
}

func ledgerOf(b impl.Book) ledger {
	l := ledger{reserved: b.Safe}
	for number := b.Next; number < b.Safe; number++ {
		l.ready = append(l.ready, number)
	}
	return l
}

func (l *ledger) book() impl.Book {
	return impl.Book{Next: l.reserved - len(l.ready), Safe: l.reserved}
}

// keep reports whether there are more reserved numbers.
func (l *ledger) keep() bool {
	before := l.reserved
	for len(l.ready) < 4 && l.reserved < 60 {
		l.ready = append(l.ready, l.reserved)
		l.reserved++
	}
	return l.reserved > before
}

func (l *ledger) take() (int, bool) {
	if len(l.ready) == 0 {
		return 0, false
	}
	number := l.ready[0]
	l.ready = l.ready[1:]
	return number, true
}

// play returns the numbers that the script issues.
func (l *ledger) play(text string) []int {
	var issued []int
	for _, operation := range []byte(text) {
		if operation == 'k' {
			l.keep()
		}
		if operation == 't' {
			if number, ok := l.take(); ok {
				issued = append(issued, number)
			}
		}
		if operation == 'f' {
			l.ready = nil
		}
	}
	return issued
}

// shortScripts lists all scripts of the three operations up to the length.
func shortScripts(longest int) []string {
	var list []string
	for length := 0; length <= longest; length++ {
		for _, tuple := range tuples([]int{'k', 't', 'f'}, length) {
			var text strings.Builder
			for _, operation := range tuple {
				text.WriteByte(byte(operation))
			}
			list = append(list, text.String())
		}
	}
	return list
}

// longScripts lists scripts of 8 to 60 bytes, in which some operations come more often than others and some bytes have no effect.
func longScripts() []string {
	var list []string
	state := uint32(1)
	for i, operations := range []string{"ktf", "kttt", "kttttf", "kkkkf", "kf", "ktttt-", "ttttttk", "kttt K\xff", "kktttf\n"} {
		for round := range 53 {
			text := make([]byte, 8+round)
			for j := range text {
				state = state*1664525 + 1013904223
				text[j] = operations[int(state>>16)%len(operations)]
			}
			repeated := strings.Repeat(operations, 60)[i : i+8+round]
			list = append(list, string(text), repeated)
		}
	}
	return list
}

func scripts() []string {
	return append(shortScripts(7), longScripts()...)
}

func checkKept(t *testing.T, b, want impl.Book) {
	t.Helper()
	if kept, ok := impl.BookKeep(b); !ok || kept != want {
		t.Errorf("BookKeep(%v) is %v, %v, not %v", b, kept, ok, want)
	}
}

// checkNotKept fails the test if BookKeep does not return the counter itself and false.
func checkNotKept(t *testing.T, b impl.Book) {
	t.Helper()
	if kept, ok := impl.BookKeep(b); ok || kept != b {
		t.Errorf("BookKeep(%v) is %v, %v", b, kept, ok)
	}
}

func checkTaken(t *testing.T, b impl.Book, number int, want impl.Book) {
	t.Helper()
	if n, taken, ok := impl.BookTake(b); !ok || n != number || taken != want {
		t.Errorf("BookTake(%v) is %d, %v, %v, not %d, %v", b, n, taken, ok, number, want)
	}
}

// checkNotTaken fails the test if BookTake does not return 0, the counter itself and false.
func checkNotTaken(t *testing.T, b impl.Book) {
	t.Helper()
	if n, taken, ok := impl.BookTake(b); ok || n != 0 || taken != b {
		t.Errorf("BookTake(%v) is %d, %v, %v", b, n, taken, ok)
	}
}

func checkFallen(t *testing.T, b, want impl.Book) {
	t.Helper()
	if fallen := impl.BookFall(b); fallen != want {
		t.Errorf("BookFall(%v) is %v, not %v", b, fallen, want)
	}
}

func checkBookOk(t *testing.T, b impl.Book, want bool) {
	t.Helper()
	if impl.BookOk(b) != want {
		t.Errorf("BookOk(%v) is not %v", b, want)
	}
}

// played fails the test if the script is not executed.
func played(t *testing.T, text string) ([]int, impl.Book) {
	t.Helper()
	issued, b, ok := impl.BookPlay(text)
	if !ok {
		t.Fatalf("BookPlay(%q) failed", text)
	}
	checkBookOk(t, b, true)
	return issued, b
}

func checkPlayed(t *testing.T, text string, numbers []int, want impl.Book) {
	t.Helper()
	if issued, b, ok := impl.BookPlay(text); !ok || !slices.Equal(issued, numbers) || b != want {
		t.Errorf("BookPlay(%q) is %v, %v, %v, not %v, %v", text, issued, b, ok, numbers, want)
	}
}

func checkNotPlayed(t *testing.T, text string) {
	t.Helper()
	if issued, b, ok := impl.BookPlay(text); ok || len(issued) > 0 || b != (impl.Book{}) {
		t.Errorf("BookPlay of %d bytes is %v, %v, %v", len(text), issued, b, ok)
	}
}

// numbersFrom lists the numbers from first to below end.
func numbersFrom(first, end int) []int {
	var list []int
	for number := first; number < end; number++ {
		list = append(list, number)
	}
	return list
}

// P119: every pair near the range.
func TestBookOkIsTrueInExactlyTheRange(t *testing.T) {
	valid := books()
	for _, b := range valid {
		checkBookOk(t, b, true)
	}
	for next := -5; next <= 70; next++ {
		for safe := -5; safe <= 70; safe++ {
			b := impl.Book{Next: next, Safe: safe}
			checkBookOk(t, b, slices.Contains(valid, b))
		}
	}
}

// P119, and the sections of BookKeep, BookTake and BookFall: counters that are not valid.
func TestInvalidBooksGiveNothing(t *testing.T) {
	for _, b := range outsideBooks() {
		checkBookOk(t, b, false)
		if kept, ok := impl.BookKeep(b); ok || kept != (impl.Book{}) {
			t.Errorf("BookKeep(%v) is %v, %v", b, kept, ok)
		}
		if n, taken, ok := impl.BookTake(b); ok || n != 0 || taken != (impl.Book{}) {
			t.Errorf("BookTake(%v) is %d, %v, %v", b, n, taken, ok)
		}
		checkFallen(t, b, impl.Book{})
	}
}

// P114: every counter.
func TestBookTakeIssuesTheNextNumberIfItIsReserved(t *testing.T) {
	for _, b := range books() {
		if b.Next < b.Safe {
			checkTaken(t, b, b.Next, impl.Book{Next: b.Next + 1, Safe: b.Safe})
		} else {
			checkNotTaken(t, b)
		}
	}
}

// P115: every counter.
func TestBookKeepReservesABlock(t *testing.T) {
	for _, b := range books() {
		l := ledgerOf(b)
		if l.keep() {
			checkKept(t, b, l.book())
		} else {
			checkNotKept(t, b)
		}
	}
}

// P115, in its own words: every counter.
func TestBookKeepLosesNoReservation(t *testing.T) {
	for _, b := range books() {
		kept, ok := impl.BookKeep(b)
		if kept.Next != b.Next || kept.Safe < b.Safe {
			t.Errorf("BookKeep(%v) is %v", b, kept)
		}
		if reserved := kept.Safe - kept.Next; reserved < 4 && kept.Safe < 60 || ok && reserved > 4 {
			t.Errorf("BookKeep(%v) is %v, %v", b, kept, ok)
		}
		if already := b.Safe-b.Next >= 4 || b.Safe == 60; ok == already {
			t.Errorf("BookKeep(%v) is %v, %v", b, kept, ok)
		}
	}
}

// P115: twice is once.
func TestBookKeepTwiceFails(t *testing.T) {
	for _, b := range books() {
		kept, _ := impl.BookKeep(b)
		checkNotKept(t, kept)
	}
}

// P116: every counter.
func TestBookFallContinuesAtSafe(t *testing.T) {
	for _, b := range books() {
		fallen := impl.Book{Next: b.Safe, Safe: b.Safe}
		checkFallen(t, b, fallen)
		checkFallen(t, impl.BookFall(b), fallen)
		checkNotTaken(t, impl.BookFall(b))
	}
}

// P116 and P121: what is issued after a crash was not reserved before, if there is such a number.
func TestAfterACrashBookKeepIsNeeded(t *testing.T) {
	for _, b := range books() {
		fallen := impl.BookFall(b)
		checkNotTaken(t, fallen)
		if b.Safe == 60 {
			checkNotKept(t, fallen)
			continue
		}
		kept, ok := impl.BookKeep(fallen)
		if !ok {
			t.Errorf("BookKeep(%v) failed", fallen)
		}
		checkTaken(t, kept, b.Safe, impl.Book{Next: b.Safe + 1, Safe: min(b.Safe+4, 60)})
	}
}

// P120: every counter, until nothing is left.
func TestBookTakeSucceedsAsOftenAsNumbersAreReserved(t *testing.T) {
	for _, b := range books() {
		left := b
		for number := b.Next; number < b.Safe; number++ {
			after := impl.Book{Next: number + 1, Safe: b.Safe}
			checkTaken(t, left, number, after)
			_, left, _ = impl.BookTake(left)
		}
		checkNotTaken(t, left)
		checkFallen(t, left, left)
	}
}

// P114 to P116 and P119, as values: the edges of a counter, of a block and of all numbers.
func TestBooksAtNamedValues(t *testing.T) {
	for _, c := range []struct {
		b, kept impl.Book
		ok      bool
	}{
		{impl.Book{}, impl.Book{Next: 0, Safe: 4}, true},
		{impl.Book{Next: 0, Safe: 3}, impl.Book{Next: 0, Safe: 4}, true},
		{impl.Book{Next: 0, Safe: 4}, impl.Book{Next: 0, Safe: 4}, false},
		{impl.Book{Next: 0, Safe: 5}, impl.Book{Next: 0, Safe: 5}, false},
		{impl.Book{Next: 0, Safe: 60}, impl.Book{Next: 0, Safe: 60}, false},
		{impl.Book{Next: 1, Safe: 4}, impl.Book{Next: 1, Safe: 5}, true},
		{impl.Book{Next: 3, Safe: 4}, impl.Book{Next: 3, Safe: 7}, true},
		{impl.Book{Next: 4, Safe: 4}, impl.Book{Next: 4, Safe: 8}, true},
		{impl.Book{Next: 54, Safe: 57}, impl.Book{Next: 54, Safe: 58}, true},
		{impl.Book{Next: 55, Safe: 59}, impl.Book{Next: 55, Safe: 59}, false},
		{impl.Book{Next: 56, Safe: 56}, impl.Book{Next: 56, Safe: 60}, true},
		{impl.Book{Next: 56, Safe: 59}, impl.Book{Next: 56, Safe: 60}, true},
		{impl.Book{Next: 56, Safe: 60}, impl.Book{Next: 56, Safe: 60}, false},
		{impl.Book{Next: 57, Safe: 57}, impl.Book{Next: 57, Safe: 60}, true},
		{impl.Book{Next: 57, Safe: 60}, impl.Book{Next: 57, Safe: 60}, false},
		{impl.Book{Next: 58, Safe: 59}, impl.Book{Next: 58, Safe: 60}, true},
		{impl.Book{Next: 59, Safe: 59}, impl.Book{Next: 59, Safe: 60}, true},
		{impl.Book{Next: 59, Safe: 60}, impl.Book{Next: 59, Safe: 60}, false},
		{impl.Book{Next: 60, Safe: 60}, impl.Book{Next: 60, Safe: 60}, false},
	} {
		checkBookOk(t, c.b, true)
		if kept, ok := impl.BookKeep(c.b); kept != c.kept || ok != c.ok {
			t.Errorf("BookKeep(%v) is %v, %v, not %v, %v", c.b, kept, ok, c.kept, c.ok)
		}
	}
	checkNotTaken(t, impl.Book{})
	checkTaken(t, impl.Book{Next: 0, Safe: 1}, 0, impl.Book{Next: 1, Safe: 1})
	checkNotTaken(t, impl.Book{Next: 4, Safe: 4})
	checkTaken(t, impl.Book{Next: 3, Safe: 4}, 3, impl.Book{Next: 4, Safe: 4})
	checkTaken(t, impl.Book{Next: 58, Safe: 59}, 58, impl.Book{Next: 59, Safe: 59})
	checkNotTaken(t, impl.Book{Next: 59, Safe: 59})
	checkTaken(t, impl.Book{Next: 59, Safe: 60}, 59, impl.Book{Next: 60, Safe: 60})
	checkNotTaken(t, impl.Book{Next: 60, Safe: 60})
	checkFallen(t, impl.Book{}, impl.Book{})
	checkFallen(t, impl.Book{Next: 0, Safe: 4}, impl.Book{Next: 4, Safe: 4})
	checkFallen(t, impl.Book{Next: 3, Safe: 4}, impl.Book{Next: 4, Safe: 4})
	checkFallen(t, impl.Book{Next: 4, Safe: 4}, impl.Book{Next: 4, Safe: 4})
	checkFallen(t, impl.Book{Next: 0, Safe: 60}, impl.Book{Next: 60, Safe: 60})
	checkFallen(t, impl.Book{Next: 58, Safe: 59}, impl.Book{Next: 59, Safe: 59})
}

// P114, P115 and P120: all numbers in order, block by block, and then none.
func TestEveryNumberIsIssued(t *testing.T) {
	var b impl.Book
	var issued []int
	for range 15 {
		kept, _ := impl.BookKeep(b)
		b = kept
		for range 4 {
			n, taken, _ := impl.BookTake(b)
			issued, b = append(issued, n), taken
		}
		checkNotTaken(t, b)
	}
	if !slices.Equal(issued, numbersFrom(0, 60)) || b != (impl.Book{Next: 60, Safe: 60}) {
		t.Errorf("%v were issued, until %v", issued, b)
	}
	checkNotKept(t, b)
	checkNotTaken(t, b)
	checkFallen(t, b, b)
}

// P117 and P122: every short script, and longer ones.
func TestBookPlayExecutesTheScript(t *testing.T) {
	for _, text := range scripts() {
		var l ledger
		numbers := l.play(text)
		checkPlayed(t, text, numbers, l.book())
	}
}

// P117, in its own words.
func TestBookPlayIssuesEachNumberAtMostOnce(t *testing.T) {
	for _, text := range scripts() {
		issued, b := played(t, text)
		least := 0
		for _, number := range issued {
			if number < least || number >= 60 || number >= b.Next {
				t.Errorf("BookPlay(%q) is %v, %v", text, issued, b)
			}
			least = number + 1
		}
	}
}

// P118: a crash at the end of every short script, and of longer ones, up to 60 bytes with it.
func TestACrashIssuesNothing(t *testing.T) {
	for _, text := range scripts() {
		if len(text) == 60 {
			checkNotPlayed(t, text+"f")
			continue
		}
		issued, b := played(t, text)
		checkPlayed(t, text+"f", issued, impl.Book{Next: b.Safe, Safe: b.Safe})
	}
}

// P118: what comes after the crash is new, and none of what was reserved before.
func TestNumbersAfterACrashAreNew(t *testing.T) {
	for _, text := range scripts() {
		for _, after := range []string{"f", "ft", "ftt", "fk", "fkt", "ffktt", "fktttt", "ftktkfkt"} {
			if len(text)+len(after) > 60 {
				checkNotPlayed(t, text+after)
				continue
			}
			before, b := played(t, text)
			issued, _ := played(t, text+after)
			if len(issued) < len(before) || !slices.Equal(issued[:len(before)], before) {
				t.Fatalf("BookPlay issues %v by %q, and %v by %q", before, text, issued, text+after)
			}
			for _, number := range issued[len(before):] {
				if number < b.Safe || slices.Contains(before, number) {
					t.Errorf("BookPlay issues %v by %q, and %v by %q", before, text, issued, text+after)
				}
			}
		}
	}
}

// afterByte applies the operation of the byte by the function that P122 names.
func afterByte(issued []int, b impl.Book, operation byte) ([]int, impl.Book) {
	switch operation {
	case 'k':
		b, _ = impl.BookKeep(b)
	case 't':
		if n, taken, ok := impl.BookTake(b); ok {
			return append(slices.Clone(issued), n), taken
		}
	case 'f':
		b = impl.BookFall(b)
	}
	return issued, b
}

// P122: every byte behind short scripts.
func TestEveryByteBehindAScript(t *testing.T) {
	for _, text := range append(shortScripts(4), "ktttktff-", "kfkfkfkfkfkfkfkfkfkfkfkfkfkfk") {
		issued, b := played(t, text)
		for operation := range 256 {
			numbers, after := afterByte(issued, b, byte(operation))
			checkPlayed(t, text+string([]byte{byte(operation)}), numbers, after)
		}
	}
}

// P122: each operation behind short and long scripts, up to 60 bytes.
func TestEachOperationBehindAScript(t *testing.T) {
	for _, text := range scripts() {
		for _, operation := range []byte("ktf -KTF\x00\n\xff") {
			longer := text + string([]byte{operation})
			if len(longer) > 60 {
				checkNotPlayed(t, longer)
				continue
			}
			issued, b := played(t, text)
			numbers, after := afterByte(issued, b, operation)
			checkPlayed(t, longer, numbers, after)
		}
	}
}

// P122: bytes that have no effect, also those of runes of several bytes and those that look like an operation.
func TestOtherBytesHaveNoEffect(t *testing.T) {
	var all strings.Builder
	for operation := range 256 {
		if !strings.ContainsRune("ktf", rune(operation)) {
			all.WriteByte(byte(operation))
		}
	}
	others := []string{"", " ", "\n", "\x00", "K", "T", "F", "j", "l", "s", "u", "e", "g", "eep", "\xeb", "\xf4", "\xe6", "ķţƒ", "κτφ", "\u212a", "\xff\xfe", "日本語"}
	for rest := all.String(); rest != ""; rest = rest[min(len(rest), 44):] {
		others = append(others, rest[:min(len(rest), 44)])
	}
	for _, other := range others {
		checkPlayed(t, other, nil, impl.Book{})
		checkPlayed(t, other+"ktt", []int{0, 1}, impl.Book{Next: 2, Safe: 4})
		checkPlayed(t, "kt"+other+"tfkt", []int{0, 1, 4}, impl.Book{Next: 5, Safe: 8})
		checkPlayed(t, "tkttftkt"+other, []int{0, 1, 4}, impl.Book{Next: 5, Safe: 8})
	}
}

// P117, P118 and P122, as values.
func TestScriptsAtNamedValues(t *testing.T) {
	for _, c := range []struct {
		text    string
		numbers []int
		b       impl.Book
	}{
		{"", nil, impl.Book{}},
		{"t", nil, impl.Book{}},
		{"f", nil, impl.Book{}},
		{"tftf", nil, impl.Book{}},
		{"k", nil, impl.Book{Next: 0, Safe: 4}},
		{"kk", nil, impl.Book{Next: 0, Safe: 4}},
		{"kf", nil, impl.Book{Next: 4, Safe: 4}},
		{"kff", nil, impl.Book{Next: 4, Safe: 4}},
		{"fk", nil, impl.Book{Next: 0, Safe: 4}},
		{"kft", nil, impl.Book{Next: 4, Safe: 4}},
		{"kfkt", []int{4}, impl.Book{Next: 5, Safe: 8}},
		{"kt", []int{0}, impl.Book{Next: 1, Safe: 4}},
		{"ktk", []int{0}, impl.Book{Next: 1, Safe: 5}},
		{"ktfk", []int{0}, impl.Book{Next: 4, Safe: 8}},
		{"ktkfkt", []int{0, 5}, impl.Book{Next: 6, Safe: 9}},
		{"kttttt", []int{0, 1, 2, 3}, impl.Book{Next: 4, Safe: 4}},
		{"kttttftkt", []int{0, 1, 2, 3, 4}, impl.Book{Next: 5, Safe: 8}},
		{"tkttftkt", []int{0, 1, 4}, impl.Book{Next: 5, Safe: 8}},
		{"ktffkffktt", []int{0, 8, 9}, impl.Book{Next: 10, Safe: 12}},
	} {
		checkPlayed(t, c.text, c.numbers, c.b)
	}
}

// P117: scripts that come to BookMax, whose last block may be shorter, and go on behind it.
func TestScriptsUntilAllNumbersAreReserved(t *testing.T) {
	end := impl.Book{Next: 60, Safe: 60}
	checkPlayed(t, strings.Repeat("ktttt", 12), numbersFrom(0, 48), impl.Book{Next: 48, Safe: 48})
	checkPlayed(t, strings.Repeat("kf", 5)+strings.Repeat("ktttt", 10), numbersFrom(20, 60), end)
	checkPlayed(t, strings.Repeat("kf", 14)+"k", nil, impl.Book{Next: 56, Safe: 60})
	for _, after := range []string{"", "k", "t", "f", "ktkt", "ffktfkt"} {
		checkPlayed(t, strings.Repeat("kf", 15)+after, nil, end)
		checkPlayed(t, strings.Repeat("kf", 14)+"ktttt"+after, numbersFrom(56, 60), end)
		checkPlayed(t, "ktk"+strings.Repeat("fk", 14)+"kttt"+after, []int{0, 57, 58, 59}, end)
		checkPlayed(t, "kttk"+strings.Repeat("fk", 14)+"tt"+after, []int{0, 1, 58, 59}, end)
		checkPlayed(t, "ktttk"+strings.Repeat("fk", 14)+"t"+after, []int{0, 1, 2, 59}, end)
	}
}

// P117: each number is issued by some script, and only once.
func TestEachNumberIsIssuedBySomeScript(t *testing.T) {
	for number := range 60 {
		first := number / 4 * 4
		text := strings.Repeat("kf", number/4) + "k" + strings.Repeat("t", number-first+1)
		checkPlayed(t, text, numbersFrom(first, number+1), impl.Book{Next: number + 1, Safe: first + 4})
	}
}

// Section of BookPlay: 60 bytes are executed to the last one, and 61 are too long, whichever they are.
func TestBookPlayOfTooLongScriptsFails(t *testing.T) {
	for _, c := range []struct {
		part    string
		numbers []int
		b       impl.Book
	}{
		{"k", nil, impl.Book{Next: 0, Safe: 4}},
		{"t", nil, impl.Book{}},
		{"f", nil, impl.Book{}},
		{"-", nil, impl.Book{}},
		{"\xff", nil, impl.Book{}},
		{"é", nil, impl.Book{}},
		{"日", nil, impl.Book{}},
		{"kt", numbersFrom(0, 30), impl.Book{Next: 30, Safe: 33}},
		{"ktttf", []int{0, 1, 2, 4, 5, 6, 8, 9, 10, 12, 13, 14, 16, 17, 18, 20, 21, 22, 24, 25, 26, 28, 29, 30, 32, 33, 34, 36, 37, 38, 40, 41, 42, 44, 45, 46}, impl.Book{Next: 48, Safe: 48}},
	} {
		text := strings.Repeat(c.part, 60/len(c.part))
		checkPlayed(t, text, c.numbers, c.b)
		for _, more := range []string{"k", "t", "f", "-", "\x00", "\xff", "é", text, strings.Repeat(text, 1000)} {
			checkNotPlayed(t, text+more)
			checkNotPlayed(t, more+text)
		}
	}
	spaces := strings.Repeat(" ", 59)
	checkPlayed(t, spaces+"k", nil, impl.Book{Next: 0, Safe: 4})
	checkPlayed(t, "k"+spaces, nil, impl.Book{Next: 0, Safe: 4})
	checkPlayed(t, "k"+spaces[1:]+"t", []int{0}, impl.Book{Next: 1, Safe: 4})
	checkNotPlayed(t, "k"+spaces+"t")
	checkPlayed(t, strings.Repeat("日", 20), nil, impl.Book{})
	checkNotPlayed(t, strings.Repeat("日", 20)+"k")
	checkNotPlayed(t, strings.Repeat("日", 60))
}

// General rules: nothing is kept from one call to the next, also when calls run at the same time.
func TestBooksKeepNoState(t *testing.T) {
	var callers sync.WaitGroup
	for range 8 {
		callers.Go(func() {
			for range 50 {
				checkPlayed(t, "tkttftkt", []int{0, 1, 4}, impl.Book{Next: 5, Safe: 8})
				checkKept(t, impl.Book{}, impl.Book{Next: 0, Safe: 4})
				checkNotPlayed(t, strings.Repeat("k", 61))
				checkTaken(t, impl.Book{Next: 5, Safe: 8}, 5, impl.Book{Next: 6, Safe: 8})
				checkNotTaken(t, impl.Book{})
				checkFallen(t, impl.Book{Next: 5, Safe: 9}, impl.Book{Next: 9, Safe: 9})
				checkFallen(t, impl.Book{Next: -1}, impl.Book{})
				checkPlayed(t, "", nil, impl.Book{})
			}
		})
	}
	callers.Wait()
}

// General rules: the numbers that BookPlay returns are new memory.
func TestBookPlaySharesNoMemory(t *testing.T) {
	for _, text := range append(longScripts(), "", "k", "kt", "ktttt", "ktkt-", "tkttftkt", strings.Repeat("ktttt", 12), strings.Repeat("kt", 31)) {
		checkMemory(t, "BookPlay", func([][]int) []int {
			issued, _, _ := impl.BookPlay(text)
			return issued
		})
	}
}

// General rules: the limits are as in the table of constants.
func TestTheLimitsOfBooks(t *testing.T) {
	if impl.BookMax != 60 || impl.BookBlock != 4 {
		t.Errorf("BookMax is %d, and BookBlock is %d", impl.BookMax, impl.BookBlock)
	}
}
