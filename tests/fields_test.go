package tests

import (
	"encoding/hex"
	"fmt"
	"math/big"
	"slices"
	"strings"
	"testing"
	"unsafe"

	"loop.example/g00126/impl"
)

const (
	mostDigits = 100
	mostPad    = 18
)

// fieldInts are the ints at which a place, a number, a width or int itself begins or ends.
var fieldInts = []int{
	leastOfInt, leastOfInt + 1, -1 << 62, -1 << 32, -1000, -128, -101, -100, -65, -18, -16, -8, -3, -2, -1,
	0, 1, 2, 3, 4, 5, 7, 8, 9, 15, 16, 17, 18, 19, 20, 49, 50, 51, 63, 64, 65, 66, 98, 99, 100, 101, 102, 127, 128, 129,
	998, 999, 1000, 1001, 1002, 1003, 1 << 32, 1<<32 + 2, 1<<32 + 3, 1 << 62, greatestInt - 128, greatestInt - 16, greatestInt - 2, greatestInt - 1, greatestInt,
}

// aheads and behinds are what stands around a field; digits and set bits among them, so that a reader that looks beside its field errs.
var (
	aheads  = []string{"", "z", "\x00", "\xff", "0123", "99999", "\x80\x80\x80\x80\x80\x80\x80\x80", strings.Repeat("\x12", 57)}
	behinds = []string{"", "q", "\x00", "\xff", "0", "9876", strings.Repeat("\x00", 16), strings.Repeat("\xff", 17)}
)

func oneByte(b int) string { return string([]byte{byte(b)}) }

// someDigits has n digits in which no two that stand beside each other or one apart are alike.
func someDigits(n, first int) string {
	s := make([]byte, n)
	for i := range s {
		s[i] = '0' + byte((first+3*i)%10)
	}
	return string(s)
}

// someText has n bytes, of all kinds.
func someText(n, first int) string {
	s := make([]byte, n)
	for i := range s {
		s[i] = byte(first + 37*i)
	}
	return string(s)
}

func areDigits(s string) bool { return strings.Trim(s, "0123456789") == "" }

// pieceAt is the size bytes of s from place i on; false where there are not so many.
func pieceAt(s string, i, size int) (string, bool) {
	if i < 0 || i > len(s) || size < 0 || size > len(s)-i {
		return "", false
	}
	return s[i : i+size], true
}

// wantPutDigits takes the digits for hexadecimal ones, as each fills four bits.
func wantPutDigits(s string) (string, bool) {
	for _, b := range []byte(s) {
		if b < 48 || b > 57 {
			return "", false
		}
	}
	if len(s) > mostDigits {
		return "", false
	}
	if len(s)%2 == 1 {
		s = "0" + s
	}
	packed, err := hex.DecodeString(s)
	return string(packed), err == nil
}

func wantGetDigits(s string, i, n int) (string, int) {
	if !within(n, 0, mostDigits) {
		return "", -1
	}
	size := n/2 + n%2
	piece, ok := pieceAt(s, i, size)
	if !ok {
		return "", -1
	}
	digits := hex.EncodeToString([]byte(piece))
	if strings.ContainsAny(digits, "abcdef") || n%2 == 1 && digits[0] != '0' {
		return "", -1
	}
	return digits[n%2:], i + size
}

func wantPutVar(s string, width int) (string, bool) {
	if width == 2 && len(s) <= 99 || width == 3 && len(s) <= 999 {
		return fmt.Sprintf("%0*d", width, len(s)) + s, true
	}
	return "", false
}

func wantGetVar(s string, i, width int) (string, int) {
	head, ok := pieceAt(s, i, width)
	if width != 2 && width != 3 || !ok {
		return "", -1
	}
	// Of all lengths the one whose text stands there.
	for size := range 1000 {
		if fmt.Sprintf("%0*d", width, size) == head {
			text, ok := pieceAt(s, i+width, size)
			if !ok {
				return "", -1
			}
			return text, i + width + size
		}
	}
	return "", -1
}

// wantPutSet writes the bits as a text of 0 and 1, which is read as one number.
func wantPutSet(nums []int) (string, bool) {
	for i, n := range nums {
		if !within(n, 2, 128) || i > 0 && nums[i-1] >= n {
			return "", false
		}
	}
	size := 64
	if len(nums) > 0 && slices.Max(nums) > 64 {
		size = 128
	}
	bits := []byte(strings.Repeat("0", size))
	if size == 128 {
		bits[0] = '1'
	}
	for _, n := range nums {
		bits[n-1] = '1'
	}
	num, _ := new(big.Int).SetString(string(bits), 2)
	return string(num.FillBytes(make([]byte, size/8))), true
}

func wantGetSet(s string, i int) ([]int, int) {
	first, ok := pieceAt(s, i, 1)
	if !ok {
		return nil, -1
	}
	size := 8
	if first[0] >= 128 {
		size = 16
	}
	piece, ok := pieceAt(s, i, size)
	if !ok || size == 16 && piece[8:] == strings.Repeat("\x00", 8) {
		return nil, -1
	}
	bits := ""
	for _, b := range []byte(piece) {
		bits += fmt.Sprintf("%08b", b)
	}
	var nums []int
	for k, c := range bits[1:] {
		if c == '1' {
			nums = append(nums, k+2)
		}
	}
	return nums, i + size
}

func wantPadNum(x, n int) string {
	if !within(n, 1, mostPad) || x < 0 {
		return ""
	}
	s := fmt.Sprintf("%0*d", n, x)
	if len(s) > n {
		return ""
	}
	return s
}

func wantNumOf(s string) int {
	if len(s) > mostPad || !areDigits(s) {
		return -1
	}
	if s == "" {
		return 0
	}
	num, _ := new(big.Int).SetString(s, 10)
	return int(num.Int64())
}

func askPutDigits(t *testing.T, s string) {
	t.Helper()
	want, wantOk := wantPutDigits(s)
	if got, ok := impl.PutDigits(s); got != want || ok != wantOk {
		t.Errorf("PutDigits(%q) = %q, %v; want %q, %v", s, got, ok, want, wantOk)
	}
}

func askGetDigits(t *testing.T, s string, i, n int) {
	t.Helper()
	want, wantAt := wantGetDigits(s, i, n)
	if got, at := impl.GetDigits(s, i, n); got != want || at != wantAt {
		t.Errorf("GetDigits(%q, %d, %d) = %q, %d; want %q, %d", s, i, n, got, at, want, wantAt)
	}
}

func askPutVar(t *testing.T, s string, width int) {
	t.Helper()
	want, wantOk := wantPutVar(s, width)
	if got, ok := impl.PutVar(s, width); got != want || ok != wantOk {
		t.Errorf("PutVar(%q, %d) = %q, %v; want %q, %v", s, width, got, ok, want, wantOk)
	}
}

func askGetVar(t *testing.T, s string, i, width int) {
	t.Helper()
	want, wantAt := wantGetVar(s, i, width)
	if got, at := impl.GetVar(s, i, width); got != want || at != wantAt {
		t.Errorf("GetVar(%q, %d, %d) = %q, %d; want %q, %d", s, i, width, got, at, want, wantAt)
	}
}

func askPutSet(t *testing.T, nums []int) {
	t.Helper()
	want, wantOk := wantPutSet(nums)
	if got, ok := impl.PutSet(nums); got != want || ok != wantOk {
		t.Errorf("PutSet(%v) = %q, %v; want %q, %v", nums, got, ok, want, wantOk)
	}
}

func askGetSet(t *testing.T, s string, i int) {
	t.Helper()
	want, wantAt := wantGetSet(s, i)
	if got, at := impl.GetSet(s, i); !slices.Equal(got, want) || at != wantAt {
		t.Errorf("GetSet(%q, %d) = %v, %d; want %v, %d", s, i, got, at, want, wantAt)
	}
}

func askPadNum(t *testing.T, x, n int) {
	t.Helper()
	want := wantPadNum(x, n)
	if got := impl.PadNum(x, n); got != want {
		t.Errorf("PadNum(%d, %d) = %q, want %q", x, n, got, want)
	}
}

func askNumOf(t *testing.T, s string) {
	t.Helper()
	want := wantNumOf(s)
	if got := impl.NumOf(s); got != want {
		t.Errorf("NumOf(%q) = %d, want %d", s, got, want)
	}
}

// digitTexts are texts of digits of every length up to one beyond the limit.
func digitTexts() []string {
	var list []string
	for n := range mostDigits + 2 {
		list = append(list, strings.Repeat("0", n), strings.Repeat("9", n), someDigits(n, n), someDigits(n, n+1))
	}
	return list
}

// The answers here are written by hand, lest both sides err alike.
func TestPutDigitsNamed(t *testing.T) {
	cases := []struct {
		s, want string
		ok      bool
	}{
		{"", "", true},
		{"0", "\x00", true},
		{"7", "\x07", true},
		{"00", "\x00", true},
		{"12", "\x12", true},
		{"90", "\x90", true},
		{"123", "\x01\x23", true},
		{"0123", "\x01\x23", true},
		{"1234", "\x12\x34", true},
		{"98765", "\x09\x87\x65", true},
		{"000000", "\x00\x00\x00", true},
		{strings.Repeat("58", 50), strings.Repeat("\x58", 50), true},
		{strings.Repeat("58", 49) + "5", "\x05" + strings.Repeat("\x85", 49), true},
		{strings.Repeat("58", 50) + "5", "", false},
		{strings.Repeat("0", 101), "", false},
		{"1a", "", false},
		{"a1", "", false},
		{"-1", "", false},
		{"+1", "", false},
		{" 1", "", false},
		{"1 ", "", false},
		{"1.2", "", false},
		{"1:", "", false},
		{"1/", "", false},
		{"\x00", "", false},
		{"\x01\x02", "", false},
		{"٣", "", false},
		{"１", "", false},
	}
	for _, c := range cases {
		if got, ok := impl.PutDigits(c.s); got != c.want || ok != c.ok {
			t.Errorf("PutDigits(%q) = %q, %v; want %q, %v", c.s, got, ok, c.want, c.ok)
		}
	}
}

func TestPutDigits(t *testing.T) {
	for _, s := range digitTexts() {
		askPutDigits(t, s)
	}
	askPutDigits(t, strings.Repeat("1", 1000))
	askPutDigits(t, strings.Repeat("1", 100000))
	for a := range 256 {
		askPutDigits(t, oneByte(a))
		for b := range 256 {
			askPutDigits(t, oneByte(a)+oneByte(b))
		}
	}
}

func TestPutDigitsAsksEveryByte(t *testing.T) {
	for _, n := range []int{1, 2, 3, 99, 100} {
		for i := range n {
			for _, wrong := range []byte{0, '0' - 1, '9' + 1, 'a', ' ', 0x80 | '5', 255} {
				s := []byte(someDigits(n, i))
				s[i] = wrong
				if got, ok := impl.PutDigits(string(s)); ok || got != "" {
					t.Errorf("byte %d at place %d of %d is taken: %q, %v", wrong, i, n, got, ok)
				}
			}
		}
	}
}

func TestDigitsComeBack(t *testing.T) {
	for _, digits := range digitTexts() {
		if len(digits) > mostDigits {
			continue
		}
		packed, ok := impl.PutDigits(digits)
		if !ok || len(packed) != (len(digits)+1)/2 {
			t.Fatalf("PutDigits(%q) = %q, %v", digits, packed, ok)
		}
		for _, ahead := range aheads {
			for _, behind := range behinds {
				got, at := impl.GetDigits(ahead+packed+behind, len(ahead), len(digits))
				if got != digits || at != len(ahead)+len(packed) {
					t.Fatalf("%d digits behind %q and ahead of %q: %q, %d", len(digits), ahead, behind, got, at)
				}
			}
		}
	}
}

func TestGetDigitsNamed(t *testing.T) {
	cases := []struct {
		s    string
		i, n int
		want string
		at   int
	}{
		{"", 0, 0, "", 0},
		{"", 1, 0, "", -1},
		{"", -1, 0, "", -1},
		{"", 0, 1, "", -1},
		{"ab", 0, 0, "", 0},
		{"ab", 1, 0, "", 1},
		{"ab", 2, 0, "", 2},
		{"ab", 3, 0, "", -1},
		{"\x07", 0, 1, "7", 1},
		{"\x07", 0, 2, "07", 1},
		{"\x07", 0, 3, "", -1},
		{"\x17", 0, 1, "", -1},
		{"\x17", 0, 2, "17", 1},
		{"\x99\x01\x23\x99", 1, 3, "123", 3},
		{"\x99\x01\x23\x99", 1, 4, "0123", 3},
		{"\x99\x01\x23\x99", 0, 3, "", -1},
		{"\x99\x01\x23\x99", 0, 4, "9901", 2},
		{"\x99\x01\x23\x99", 2, 4, "2399", 4},
		{"\x99\x01\x23\x99", 3, 2, "99", 4},
		{"\x99\x01\x23\x99", 3, 3, "", -1},
		{"\x99\x01\x23\x99", 4, 2, "", -1},
		{"\x1a", 0, 2, "", -1},
		{"\xa1", 0, 2, "", -1},
		{"\x0a", 0, 1, "", -1},
		{"\xff", 0, 2, "", -1},
		{"\x12\xff", 0, 2, "12", 1},
		{"\xff\x12", 1, 2, "12", 2},
		{"\x12", 0, -1, "", -1},
		{"\x12", 0, -2, "", -1},
		{strings.Repeat("\x11", 60), 0, 100, strings.Repeat("1", 100), 50},
		{strings.Repeat("\x11", 60), 0, 101, "", -1},
		{"\x01" + strings.Repeat("\x11", 60), 0, 101, "", -1},
		{strings.Repeat("\x11", 60), 10, 100, strings.Repeat("1", 100), 60},
		{strings.Repeat("\x11", 60), 11, 100, "", -1},
		{"\x01" + strings.Repeat("\x11", 49), 0, 99, strings.Repeat("1", 99), 50},
	}
	for _, c := range cases {
		if got, at := impl.GetDigits(c.s, c.i, c.n); got != c.want || at != c.at {
			t.Errorf("GetDigits(%q, %d, %d) = %q, %d; want %q, %d", c.s, c.i, c.n, got, at, c.want, c.at)
		}
	}
}

func TestGetDigitsOfAllBytes(t *testing.T) {
	for a := range 256 {
		for b := range 256 {
			s := oneByte(a) + oneByte(b)
			for n := range 6 {
				askGetDigits(t, s, 0, n)
				askGetDigits(t, s, 1, n)
			}
		}
	}
}

func TestGetDigitsAsksEveryHalf(t *testing.T) {
	for _, n := range []int{1, 2, 3, 4, 99, 100} {
		packed, _ := impl.PutDigits(someDigits(n, 1))
		for i := range len(packed) {
			for b := range 256 {
				askGetDigits(t, packed[:i]+oneByte(b)+packed[i+1:], 0, n)
				askGetDigits(t, "\x55"+packed[:i]+oneByte(b)+packed[i+1:]+"\x55", 1, n)
			}
		}
	}
}

func TestGetDigitsAtAnyInts(t *testing.T) {
	texts := []string{"", "\x01", "\x12", "\x12\x34", "\x01\x23\x45\x67\x89", strings.Repeat("\x12", 64), strings.Repeat("\x00", 128), strings.Repeat("\xff", 64), strings.Repeat("\x09\x87", 600)}
	for _, s := range texts {
		for _, i := range append(daysFrom(len(s)-60, 1, 64), fieldInts...) {
			for _, n := range fieldInts {
				askGetDigits(t, s, i, n)
			}
		}
	}
}

func TestPutVarNamed(t *testing.T) {
	cases := []struct {
		s     string
		width int
		want  string
		ok    bool
	}{
		{"", 2, "00", true},
		{"", 3, "000", true},
		{"a", 2, "01a", true},
		{"a", 3, "001a", true},
		{"0123456789", 2, "100123456789", true},
		{"\x00\xff", 2, "02\x00\xff", true},
		{"é", 2, "02é", true},
		{strings.Repeat("x", 99), 2, "99" + strings.Repeat("x", 99), true},
		{strings.Repeat("x", 100), 2, "", false},
		{strings.Repeat("x", 99), 3, "099" + strings.Repeat("x", 99), true},
		{strings.Repeat("x", 100), 3, "100" + strings.Repeat("x", 100), true},
		{strings.Repeat("x", 999), 3, "999" + strings.Repeat("x", 999), true},
		{strings.Repeat("x", 999), 2, "", false},
		{strings.Repeat("x", 1000), 3, "", false},
		{strings.Repeat("x", 1000), 2, "", false},
		{"", 1, "", false},
		{"", 4, "", false},
		{"", 0, "", false},
		{"a", 1, "", false},
		{"a", 4, "", false},
		{"a", -2, "", false},
	}
	for _, c := range cases {
		if got, ok := impl.PutVar(c.s, c.width); got != c.want || ok != c.ok {
			t.Errorf("PutVar(%q, %d) = %q, %v; want %q, %v", c.s, c.width, got, ok, c.want, c.ok)
		}
	}
}

func TestPutVar(t *testing.T) {
	if impl.MaxField != 999 {
		t.Error("MaxField is", impl.MaxField)
	}
	for n := range 1003 {
		for _, width := range []int{1, 2, 3, 4} {
			askPutVar(t, someText(n, n), width)
		}
	}
	for _, width := range fieldInts {
		for _, n := range []int{0, 1, 9, 10, 99, 100, 999, 1000, 10000, 100000} {
			askPutVar(t, someText(n, 3), width)
		}
	}
}

func TestTextsComeBack(t *testing.T) {
	for n := range 1000 {
		for width := 2; width <= 3; width++ {
			text := someText(n, 5*n)
			put, ok := impl.PutVar(text, width)
			if ok != (width == 3 || n <= 99) {
				t.Errorf("PutVar of %d bytes at width %d: %v", n, width, ok)
			}
			if !ok {
				continue
			}
			for _, ahead := range aheads {
				for _, behind := range behinds {
					got, at := impl.GetVar(ahead+put+behind, len(ahead), width)
					if got != text || at != len(ahead)+width+n {
						t.Fatalf("%d bytes at width %d behind %q and ahead of %q: %q, %d", n, width, ahead, behind, got, at)
					}
				}
			}
		}
	}
}

func TestGetVarNamed(t *testing.T) {
	cases := []struct {
		s        string
		i, width int
		want     string
		at       int
	}{
		{"", 0, 2, "", -1},
		{"0", 0, 2, "", -1},
		{"00", 0, 2, "", 2},
		{"00", 0, 3, "", -1},
		{"000", 0, 3, "", 3},
		{"000", 0, 2, "", 2},
		{"000", 1, 2, "", 3},
		{"000", 2, 2, "", -1},
		{"000", 3, 2, "", -1},
		{"02ab", 0, 2, "ab", 4},
		{"02abc", 0, 2, "ab", 4},
		{"02a", 0, 2, "", -1},
		{"03ab", 0, 2, "", -1},
		{"x02ab", 1, 2, "ab", 5},
		{"x002abc", 1, 3, "ab", 6},
		{"x002abc", 1, 2, "", 3},
		{"02ab", -1, 2, "", -1},
		{"02ab", 4, 2, "", -1},
		{"02ab", 5, 2, "", -1},
		{"02ab", 0, 1, "", -1},
		{"02ab", 0, 0, "", -1},
		{"02ab", 0, 4, "", -1},
		{"0002ab", 0, 4, "", -1},
		{"2ab", 0, 1, "", -1},
		{" 2ab", 0, 2, "", -1},
		{"2 ab", 0, 2, "", -1},
		{"+2ab", 0, 2, "", -1},
		{"-2ab", 0, 2, "", -1},
		{"-1ab", 0, 2, "", -1},
		{"0xab", 0, 2, "", -1},
		{"0:" + strings.Repeat("a", 99), 0, 2, "", -1},
		{"/5aaaaa", 0, 2, "", -1},
		{"99" + strings.Repeat("a", 99), 0, 2, strings.Repeat("a", 99), 101},
		{"99" + strings.Repeat("a", 98), 0, 2, "", -1},
		{"999" + strings.Repeat("a", 999), 0, 3, strings.Repeat("a", 999), 1002},
		{"999" + strings.Repeat("a", 998), 0, 3, "", -1},
		{"1000" + strings.Repeat("a", 1000), 0, 3, "0" + strings.Repeat("a", 99), 103},
	}
	for _, c := range cases {
		if got, at := impl.GetVar(c.s, c.i, c.width); got != c.want || at != c.at {
			t.Errorf("GetVar(%q, %d, %d) = %q, %d; want %q, %d", c.s, c.i, c.width, got, at, c.want, c.at)
		}
	}
}

func TestGetVarOfAllLengths(t *testing.T) {
	short, long := someText(99, 1), someText(999, 1)
	for a := range 256 {
		for b := range 256 {
			head := oneByte(a) + oneByte(b)
			if areDigits(head) {
				askGetVar(t, head+short, 0, 2)
				askGetVar(t, head+short[:50], 0, 2)
			} else if got, at := impl.GetVar(head+short, 0, 2); got != "" || at != -1 {
				t.Errorf("a length of %q: %q, %d", head, got, at)
			}
		}
	}
	for size := range 1000 {
		head := fmt.Sprintf("%03d", size)
		askGetVar(t, head+long, 0, 3)
		askGetVar(t, head+long[:size], 0, 3)
		if size > 0 {
			askGetVar(t, head+long[:size-1], 0, 3)
		}
		for i := range 3 {
			for b := range 256 {
				if wrong := oneByte(b); !areDigits(wrong) {
					s := head[:i] + wrong + head[i+1:] + long
					if got, at := impl.GetVar(s, 0, 3); got != "" || at != -1 {
						t.Errorf("a length of %q: %q, %d", s[:3], got, at)
					}
				}
			}
		}
	}
}

func TestGetVarAtAnyInts(t *testing.T) {
	texts := []string{"", "0", "00", "000", "0000", "02ab", "002ab", "99", "999", "\x00\x00\x00", strings.Repeat("0", 20), strings.Repeat("01", 40), strings.Repeat("9", 101), strings.Repeat("9", 1002), strings.Repeat("9", 1003)}
	for _, s := range texts {
		for _, i := range append(daysFrom(len(s)-4, 1, 8), fieldInts...) {
			for _, width := range fieldInts {
				askGetVar(t, s, i, width)
			}
		}
	}
}

// goodSets are of each kind that the halves of a set allow.
func goodSets() [][]int {
	return [][]int{
		nil, {}, {2}, {3}, {8}, {9}, {10}, {63}, {64}, {65}, {66}, {72}, {73}, {127}, {128},
		{2, 3}, {2, 64}, {63, 64}, {8, 9, 16, 17}, {2, 65}, {64, 65}, {2, 128}, {64, 128}, {65, 66}, {65, 128}, {127, 128}, {100, 101, 102},
		{2, 64, 65, 128}, {3, 4, 12, 24, 25, 49, 71}, {2, 3, 4, 12, 24, 25, 31, 37, 38, 42, 48, 49, 71, 72, 93},
		daysFrom(2, 1, 63), daysFrom(2, 1, 64), daysFrom(65, 1, 64), daysFrom(2, 1, 127), daysFrom(2, 2, 64), daysFrom(3, 2, 63), daysFrom(2, 7, 19),
	}
}

func badSets() [][]int {
	late := daysFrom(2, 1, 127)
	late[126] = 127
	return [][]int{
		{0}, {1}, {-1}, {-2}, {129}, {130}, {192}, {256}, {258}, {1000}, {leastOfInt}, {greatestInt}, {2 + 1<<32}, {65 - 1<<32},
		{1, 2}, {0, 2}, {-1, 2}, {leastOfInt, 2}, {1, 65}, {2, 129}, {128, 129}, {64, 129}, {2, greatestInt},
		{2, 2}, {64, 64}, {65, 65}, {128, 128}, {2, 3, 3}, {2, 2, 3}, {2, 65, 65}, {3, 2}, {65, 64}, {65, 2}, {128, 2}, {2, 4, 3}, {2, 70, 66}, {3, 1}, {2, 0}, {2, -5}, {2, leastOfInt},
		daysFrom(1, 1, 127), daysFrom(1, 1, 128), daysFrom(2, 1, 128), daysFrom(2, 0, 1000), slices.Repeat(daysFrom(2, 1, 127), 2), daysFrom(128, -1, 127), late,
	}
}

func TestPutSetNamed(t *testing.T) {
	none := "\x00\x00\x00\x00\x00\x00\x00"
	cases := []struct {
		nums []int
		want string
	}{
		{nil, none + "\x00"},
		{[]int{}, none + "\x00"},
		{[]int{2}, "\x40" + none},
		{[]int{2, 3}, "\x60" + none},
		{[]int{8}, "\x01" + none},
		{[]int{9}, "\x00\x80" + none[1:]},
		{[]int{64}, none + "\x01"},
		{[]int{2, 64}, "\x40" + none[1:] + "\x01"},
		{[]int{65}, "\x80" + none + "\x80" + none},
		{[]int{2, 65}, "\xc0" + none + "\x80" + none},
		{[]int{66}, "\x80" + none + "\x40" + none},
		{[]int{128}, "\x80" + none + none + "\x01"},
		{[]int{64, 128}, "\x80" + none[1:] + "\x01" + none + "\x01"},
		{daysFrom(2, 1, 63), "\x7f" + strings.Repeat("\xff", 7)},
		{daysFrom(2, 1, 127), strings.Repeat("\xff", 16)},
		{daysFrom(65, 1, 64), "\x80" + none + strings.Repeat("\xff", 8)},
	}
	for _, c := range cases {
		if got, ok := impl.PutSet(c.nums); !ok || got != c.want {
			t.Errorf("PutSet(%v) = %q, %v; want %q, true", c.nums, got, ok, c.want)
		}
		if got, at := impl.GetSet(c.want, 0); at != len(c.want) || !slices.Equal(got, c.nums) {
			t.Errorf("GetSet(%q, 0) = %v, %d; want %v, %d", c.want, got, at, c.nums, len(c.want))
		}
	}
}

func TestPutSet(t *testing.T) {
	for _, nums := range goodSets() {
		askPutSet(t, nums)
	}
	for a := -2; a <= 131; a++ {
		askPutSet(t, []int{a})
		for b := -2; b <= 131; b++ {
			askPutSet(t, []int{a, b})
			askPutSet(t, []int{2, a, b})
			askPutSet(t, []int{a, b, 128})
		}
	}
	for _, n := range append(fieldInts, edgeInts...) {
		askPutSet(t, []int{n})
		askPutSet(t, []int{2, n})
		askPutSet(t, []int{n, 128})
	}
}

func TestPutSetRefuses(t *testing.T) {
	for _, nums := range badSets() {
		if got, ok := impl.PutSet(nums); ok || got != "" {
			t.Errorf("PutSet(%v) = %q, %v", nums, got, ok)
		}
	}
}

// A fault is looked for at every place of the longest set, not at its ends alone.
func TestPutSetAsksEveryNumber(t *testing.T) {
	for i := range 127 {
		for _, wrong := range []int{leastOfInt, -1, 0, 1, 129, greatestInt} {
			nums := daysFrom(2, 1, 127)
			nums[i] = wrong
			if got, ok := impl.PutSet(nums); ok || got != "" {
				t.Errorf("%d at place %d is taken", wrong, i)
			}
		}
		if i > 0 {
			nums := daysFrom(2, 1, 127)
			nums[i]--
			if got, ok := impl.PutSet(nums); ok || got != "" {
				t.Errorf("twice the same at place %d is taken", i)
			}
			nums[i-1], nums[i] = i+2, i+1
			if got, ok := impl.PutSet(nums); ok || got != "" {
				t.Errorf("a lesser one at place %d is taken", i)
			}
		}
	}
}

// setsToTry adds to the good sets every one of one number and every one of two.
func setsToTry() [][]int {
	list := goodSets()
	for a := 2; a <= 128; a++ {
		list = append(list, []int{a})
		for b := a + 1; b <= 128; b++ {
			list = append(list, []int{a, b})
		}
	}
	return list
}

func TestSetsComeBack(t *testing.T) {
	for _, nums := range setsToTry() {
		put, ok := impl.PutSet(nums)
		size := 8
		if len(nums) > 0 && nums[len(nums)-1] > 64 {
			size = 16
		}
		if !ok || len(put) != size {
			t.Fatalf("PutSet(%v) = %q, %v", nums, put, ok)
		}
		for _, ahead := range aheads {
			for _, behind := range behinds {
				got, at := impl.GetSet(ahead+put+behind, len(ahead))
				if !slices.Equal(got, nums) || at != len(ahead)+size {
					t.Fatalf("%v behind %q and ahead of %q: %v, %d", nums, ahead, behind, got, at)
				}
			}
		}
		for cut := range size {
			if got, at := impl.GetSet(put[:cut], 0); len(got) != 0 || at != -1 {
				t.Fatalf("%d bytes of %v: %v, %d", cut, nums, got, at)
			}
		}
	}
}

func TestGetSetNamed(t *testing.T) {
	none := strings.Repeat("\x00", 8)
	cases := []struct {
		s    string
		i    int
		want []int
		at   int
	}{
		{"", 0, nil, -1},
		{none, 0, nil, 8},
		{none, 1, nil, -1},
		{none, 8, nil, -1},
		{none, 9, nil, -1},
		{none, -1, nil, -1},
		{none[1:], 0, nil, -1},
		{none + none, 0, nil, 8},
		{none + none, 8, nil, 16},
		{"a" + none, 1, nil, 9},
		{"\x60\x00\x00\x00\x00\x00\x00\x01", 0, []int{2, 3, 64}, 8},
		{"\x80" + none[1:], 0, nil, -1},
		{"\x80" + none[1:] + none, 0, nil, -1},
		{"\xc0" + none[1:] + none, 0, nil, -1},
		{strings.Repeat("\xff", 8) + none, 0, nil, -1},
		{"\x80" + none[1:] + none[1:], 0, nil, -1},
		{"\x80" + none[1:] + "\x80" + none[1:], 0, []int{65}, 16},
		{"\x80" + none[1:] + "\x80" + none[2:], 0, nil, -1},
		{"\x80" + none[1:] + none[1:] + "\x01", 0, []int{128}, 16},
		{"\x40" + none[1:] + strings.Repeat("\xff", 8), 0, []int{2}, 8},
		{"\x40" + none[1:] + strings.Repeat("\xff", 8), 8, nil, -1},
	}
	for _, c := range cases {
		if got, at := impl.GetSet(c.s, c.i); !slices.Equal(got, c.want) || at != c.at {
			t.Errorf("GetSet(%q, %d) = %v, %d; want %v, %d", c.s, c.i, got, at, c.want, c.at)
		}
	}
}

func TestGetSetOfAllBits(t *testing.T) {
	none := strings.Repeat("\x00", 8)
	for a := range 256 {
		for _, tail := range []string{"", none, "\x80" + none[1:], none[1:] + "\x01", strings.Repeat("\xff", 8), none[1:], none + "\xff"} {
			askGetSet(t, oneByte(a)+none[1:]+tail, 0)
			askGetSet(t, oneByte(a)+strings.Repeat("\xff", 7)+tail, 0)
		}
	}
	for at := range 16 {
		for b := range 256 {
			narrow, wide := []byte(none+none), []byte("\x80"+none[1:]+none)
			narrow[at] |= byte(b)
			wide[at] |= byte(b)
			askGetSet(t, string(narrow), 0)
			askGetSet(t, string(narrow[:8]), 0)
			askGetSet(t, string(wide), 0)
			askGetSet(t, "\xff"+string(wide)+"\xff", 1)
		}
	}
}

func TestGetSetAtAnyInts(t *testing.T) {
	texts := []string{"", "\x00", "\x80", "\xff", strings.Repeat("\x00", 8), strings.Repeat("\x00", 200), strings.Repeat("\xff", 8), strings.Repeat("\xff", 15), strings.Repeat("\xff", 16), strings.Repeat("\xff", 200), strings.Repeat("\x80\x00", 70), someText(1200, 0)}
	for _, s := range texts {
		for _, i := range append(daysFrom(len(s)-20, 1, 24), fieldInts...) {
			askGetSet(t, s, i)
		}
		for i := range s {
			askGetSet(t, s, i)
		}
	}
}

// What is got, put again, is what stood there: no other bytes tell the same set, digits or text.
func TestWhatIsGotWasPut(t *testing.T) {
	for first := range 256 {
		s := someText(60, first)
		for i := range len(s) {
			if nums, at := impl.GetSet(s, i); at >= 0 {
				if put, ok := impl.PutSet(nums); !ok || put != s[i:at] {
					t.Errorf("GetSet(%q, %d) = %v", s, i, nums)
				}
			}
			for n := range 6 {
				if digits, at := impl.GetDigits(s, i, n); at >= 0 {
					if put, ok := impl.PutDigits(digits); !ok || put != s[i:at] || len(digits) != n {
						t.Errorf("GetDigits(%q, %d, %d) = %q", s, i, n, digits)
					}
				}
			}
		}
	}
}

func TestPadNumNamed(t *testing.T) {
	cases := []struct {
		x, n int
		want string
	}{
		{0, 1, "0"},
		{9, 1, "9"},
		{10, 1, ""},
		{0, 2, "00"},
		{7, 3, "007"},
		{999, 3, "999"},
		{1000, 3, ""},
		{0, 18, "000000000000000000"},
		{1, 18, "000000000000000001"},
		{999999999999999999, 18, "999999999999999999"},
		{100000000000000000, 18, "100000000000000000"},
		{1000000000000000000, 18, ""},
		{greatestInt, 18, ""},
		{greatestInt, 19, ""},
		{0, 0, ""},
		{1, 0, ""},
		{0, 19, ""},
		{5, 19, ""},
		{0, -1, ""},
		{-1, 1, ""},
		{-1, 2, ""},
		{-1, 18, ""},
		{leastOfInt, 18, ""},
		{leastOfInt, 1, ""},
	}
	for _, c := range cases {
		if got := impl.PadNum(c.x, c.n); got != c.want {
			t.Errorf("PadNum(%d, %d) = %q, want %q", c.x, c.n, got, c.want)
		}
	}
}

func TestPadNum(t *testing.T) {
	power := 1
	for n := 1; n <= mostPad; n++ {
		power *= 10
		for _, x := range []int{0, 1, 9, power / 10, power/10 - 1, power / 3, power - 2, power - 1, power, power + 1, -power, 1 - power} {
			for _, m := range []int{n - 1, n, n + 1} {
				askPadNum(t, x, m)
			}
		}
	}
	for _, x := range slices.Concat(fieldInts, edgeInts, edgeDays) {
		for _, n := range fieldInts {
			askPadNum(t, x, n)
		}
	}
}

func TestNumOfNamed(t *testing.T) {
	cases := []struct {
		s    string
		want int
	}{
		{"", 0},
		{"0", 0},
		{"7", 7},
		{"007", 7},
		{"10", 10},
		{"000000000000000000", 0},
		{"0000000000000000000", -1},
		{"000000000000000001", 1},
		{"0000000000000000001", -1},
		{"999999999999999999", 999999999999999999},
		{"1000000000000000000", -1},
		{"9223372036854775807", -1},
		{"18446744073709551617", -1},
		{"x", -1},
		{"-1", -1},
		{"-0", -1},
		{"+1", -1},
		{" 1", -1},
		{"1 ", -1},
		{"1x", -1},
		{"1_0", -1},
		{"0x1", -1},
		{"1e3", -1},
		{"1.0", -1},
		{"1\n", -1},
		{"1\x00", -1},
		{"/", -1},
		{":", -1},
		{"٣", -1},
	}
	for _, c := range cases {
		if got := impl.NumOf(c.s); got != c.want {
			t.Errorf("NumOf(%q) = %d, want %d", c.s, got, c.want)
		}
	}
}

func TestNumOf(t *testing.T) {
	for _, s := range digitTexts() {
		askNumOf(t, s)
	}
	for a := range 256 {
		askNumOf(t, oneByte(a))
		for b := range 256 {
			askNumOf(t, oneByte(a)+oneByte(b))
		}
	}
	for _, n := range []int{3, 17, 18} {
		for i := range n {
			for b := range 256 {
				s := someDigits(n, i)
				askNumOf(t, s[:i]+oneByte(b)+s[i+1:])
			}
		}
	}
}

func TestNumbersComeBack(t *testing.T) {
	power := 1
	for n := 1; n <= mostPad; n++ {
		power *= 10
		for _, x := range []int{0, 1, 5, power / 10, power / 7, power / 3, power - 1} {
			if s := impl.PadNum(x, n); len(s) != n || impl.NumOf(s) != x {
				t.Errorf("PadNum(%d, %d) = %q", x, n, s)
			}
		}
	}
}

func TestPlain(t *testing.T) {
	for b := range 256 {
		want := within(b, 32, 126)
		for _, s := range []string{oneByte(b), "ab" + oneByte(b), oneByte(b) + "ab", "a" + oneByte(b) + "b", strings.Repeat("x", 1000) + oneByte(b)} {
			if got := impl.Plain(s); got != want {
				t.Errorf("Plain(%q) = %v", s, got)
			}
		}
	}
	for s, want := range map[string]bool{"": true, " ": true, "~": true, "a ~": true, "Plain text, 100%!": true, "\x1f": false, "\x7f": false, "\n": false, "a\tb": false, "é": false, "\xff": false, "\x00": false} {
		if got := impl.Plain(s); got != want {
			t.Errorf("Plain(%q) = %v", s, got)
		}
	}
}

func TestSetIsNotWrittenInto(t *testing.T) {
	for _, list := range append(goodSets(), badSets()...) {
		room := append(slices.Clone(list), 3, 200, -1, 77, 2, 65, 128, 1)
		kept := slices.Clone(room)
		for range 2 {
			impl.PutSet(room[:len(list)])
		}
		if !slices.Equal(room, kept) {
			t.Errorf("%v was written into", list)
		}
	}
}

// A set may change from call to call, and nothing of an earlier one may be left.
func TestSetIsNotKept(t *testing.T) {
	nums := []int{2, 65}
	first, _ := impl.PutSet(nums)
	nums[0] = 3
	second, _ := impl.PutSet(nums)
	if first == second || first[0] != 0xc0 || second[0] != 0xa0 {
		t.Errorf("%q and %q", first, second)
	}
}

func TestSetIsNewMemory(t *testing.T) {
	for _, nums := range goodSets() {
		s, _ := impl.PutSet(nums)
		one, _ := impl.GetSet(s, 0)
		two, _ := impl.GetSet(s, 0)
		for i := range one {
			one[i] = -1
		}
		one = append(one, -1, -1, -1)
		if !slices.Equal(two, nums) {
			t.Errorf("two answers share memory: %v", two)
		}
		if again, at := impl.GetSet(s, 0); !slices.Equal(again, nums) || at != len(s) {
			t.Errorf("an answer was kept: %v", again)
		}
	}
}

// shares tells whether two texts lie on one another in memory.
func shares(a, b string) bool {
	if a == "" || b == "" {
		return false
	}
	from, to := uintptr(unsafe.Pointer(unsafe.StringData(a))), uintptr(unsafe.Pointer(unsafe.StringData(b)))
	return from < to+uintptr(len(b)) && to < from+uintptr(len(a))
}

func TestTextIsNewMemory(t *testing.T) {
	for n := 1; n <= 999; n++ {
		text := someText(n, n)
		put, _ := impl.PutVar(text, 3)
		got, _ := impl.GetVar(put, 0, 3)
		if shares(put, text) || shares(got, put) || shares(got, text) {
			t.Errorf("a text of %d bytes shares memory", n)
		}
	}
	for n := 2; n <= mostDigits; n++ {
		digits := someDigits(n, n)
		put, _ := impl.PutDigits(digits)
		got, _ := impl.GetDigits(put, 0, n)
		if shares(put, digits) || shares(got, put) || shares(got, digits) {
			t.Errorf("%d digits share memory", n)
		}
	}
}
