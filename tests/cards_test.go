package tests

import (
	"fmt"
	"regexp"
	"slices"
	"strconv"
	"strings"
	"sync"
	"testing"

	"loop.example/g00126/impl"
)

const (
	leastCard = 12
	mostCard  = 19
)

var (
	cardForm  = regexp.MustCompile(`\A([0-9]{6})([0-9]{2,9})([0-9]{4})\z`)
	headForm  = regexp.MustCompile(`\A[0-9]{11,18}\z`)
	digitPair = regexp.MustCompile(`\A[0-9]{2}\z`)
)

// cardPlaces are places at, ahead of and behind the ends of a card number, and beyond all that a text has.
var cardPlaces = slices.Concat(daysFrom(-3, 1, 26), []int{leastOfInt, leastOfInt + 1, -1 << 32, 1 << 31, 1 << 32, 1<<32 + 1, greatestInt - 1, greatestInt})

// wantCardSum adds up, as the digits of what twice a digit is make up as much as it less 9, where it is above 9.
func wantCardSum(s string) int {
	all := ""
	for i := range len(s) {
		digit, _ := strconv.Atoi(s[i : i+1])
		if (len(s)-i)%2 == 0 {
			digit *= 2
		}
		all += strconv.Itoa(digit)
	}
	sum := 0
	for digit, weight := range "0123456789" {
		sum += digit * strings.Count(all, string(weight))
	}
	return sum
}

func wantCard(s string) bool {
	return cardForm.MatchString(s) && strings.HasSuffix(strconv.Itoa(wantCardSum(s)), "0")
}

// wantCheckDigit tries all digits.
func wantCheckDigit(s string) int {
	if !headForm.MatchString(s) {
		return -1
	}
	for digit := range 10 {
		if wantCard(s + strconv.Itoa(digit)) {
			return digit
		}
	}
	return -1
}

func wantMask(s string) string {
	if !wantCard(s) {
		return ""
	}
	parts := cardForm.FindStringSubmatch(s)
	return parts[1] + regexp.MustCompile(`.`).ReplaceAllString(parts[2], "*") + parts[3]
}

func wantRange(s string) int {
	if !wantCard(s) {
		return -1
	}
	num, _ := strconv.Atoi(strings.TrimLeft(s[:5], "0") + s[5:6])
	return num
}

func wantTurned(s string, i int) string {
	pair, there := pieceAt(s, i, 2)
	if !there || !digitPair.MatchString(pair) {
		return s
	}
	list := []byte(s)
	slices.Reverse(list[i : i+2])
	return string(list)
}

func wantCardField(s string) (impl.Field, bool) {
	if !wantCard(s) {
		return impl.Field{}, false
	}
	return impl.Field{Num: 2, Data: s}, true
}

// askCard holds all functions but Turned against the second reckoning, and against each other, and answers whether s is a card number.
func askCard(t *testing.T, s string) bool {
	t.Helper()
	ok := impl.CardOk(s)
	if want := wantCard(s); ok != want {
		t.Errorf("CardOk(%.60q) = %v, want %v", s, ok, want)
	}
	if got, want := impl.CheckDigit(s), wantCheckDigit(s); got != want {
		t.Errorf("CheckDigit(%.60q) = %d, want %d", s, got, want)
	}
	if got, want := impl.Mask(s), wantMask(s); got != want || (got != "") != ok {
		t.Errorf("Mask(%.60q) = %.60q, want %q", s, got, want)
	}
	if got, want := impl.Range(s), wantRange(s); got != want || (got != -1) != ok {
		t.Errorf("Range(%.60q) = %d, want %d", s, got, want)
	}
	field, fieldOk := impl.CardField(s)
	if want, wantOk := wantCardField(s); field != want || fieldOk != wantOk || fieldOk != ok {
		t.Errorf("CardField(%.60q) = %v, %v, want %v, %v", s, field, fieldOk, want, wantOk)
	}
	return ok
}

func askTurned(t *testing.T, s string, i int) string {
	t.Helper()
	got := impl.Turned(s, i)
	if want := wantTurned(s, i); got != want {
		t.Errorf("Turned(%.60q, %d) = %.60q, want %.60q", s, i, got, want)
	}
	return got
}

// isNoCard wants that none of the functions takes s for a card number.
func isNoCard(t *testing.T, s string) {
	t.Helper()
	if askCard(t, s) {
		t.Errorf("%.60q is taken for a card number", s)
	}
	if field, ok := impl.CardField(s); impl.Mask(s) != "" || impl.Range(s) != -1 || ok || field != (impl.Field{}) {
		t.Errorf("of %.60q is told %q, %d, %v, %v", s, impl.Mask(s), impl.Range(s), field, ok)
	}
}

// someHeads are digits of each length for which there is a check digit: alike, ascending, of noughts and nines, and as chance has them.
func someHeads() []string {
	var list []string
	thrown := chance(15)
	for n := leastCard - 1; n < mostCard; n++ {
		for digit := range 10 {
			list = append(list, strings.Repeat(strconv.Itoa(digit), n), someDigits(n, digit))
		}
		list = append(list, strings.Repeat("09", 9)[:n], strings.Repeat("90", 9)[:n], strings.Repeat("0", n-1)+"9", "9"+strings.Repeat("0", n-1))
		for range 30 {
			list = append(list, thrown.digits(n))
		}
	}
	return list
}

func (x *chance) digits(n int) string {
	s := ""
	for range n {
		s += strconv.Itoa(x.below(10))
	}
	return s
}

func someCards() []string {
	var list []string
	for _, head := range someHeads() {
		list = append(list, head+strconv.Itoa(wantCheckDigit(head)))
	}
	return list
}

// The check digits here are counted by hand: of 123456789015 from the last digit on it is 5+2+0+9+8+5+6+1+4+6+2+2, which is 50.
func TestCardsNamed(t *testing.T) {
	for _, c := range []struct {
		card, mask string
		number     int
	}{
		{"123456789015", "123456**9015", 123456},
		{"000000000000", "000000**0000", 0},
		{"000000000109", "000000**0109", 0},
		{"000001000009", "000001**0009", 1},
		{"999999999991", "999999**9991", 999999},
		{"1234567890128", "123456***0128", 123456},
		{"4222222222222", "422222***2222", 422222},
		{"0000000000000", "000000***0000", 0},
		{"12345678901237", "123456****1237", 123456},
		{"30569309025904", "305693****5904", 305693},
		{"38520000023237", "385200****3237", 385200},
		{"123456789012347", "123456*****2347", 123456},
		{"378282246310005", "378282*****0005", 378282},
		{"371449635398431", "371449*****8431", 371449},
		{"1234567890123452", "123456******3452", 123456},
		{"4111111111111111", "411111******1111", 411111},
		{"5555555555554444", "555555******4444", 555555},
		{"6011111111111117", "601111******1117", 601111},
		{"3530111333300000", "353011******0000", 353011},
		{"0012340000000006", "001234******0006", 1234},
		{"12345678901234569", "123456*******4569", 123456},
		{"00000000000000000", "000000*******0000", 0},
		{"123456789012345671", "123456********5671", 123456},
		{"099999000000000005", "099999********0005", 99999},
		{"1234567890123456785", "123456*********6785", 123456},
		{"0000000000000000000", "000000*********0000", 0},
		{"9999999999999999998", "999999*********9998", 999999},
	} {
		last := len(c.card) - 1
		if !askCard(t, c.card) || !impl.CardOk(c.card) {
			t.Errorf("%s is no card number", c.card)
		}
		if got := impl.CheckDigit(c.card[:last]); strconv.Itoa(got) != c.card[last:] {
			t.Errorf("the check digit of %s is %d", c.card[:last], got)
		}
		if got := impl.Mask(c.card); got != c.mask {
			t.Errorf("of %s is seen %s, want %s", c.card, got, c.mask)
		}
		if got := impl.Range(c.card); got != c.number {
			t.Errorf("of %s the first six digits are %d, want %d", c.card, got, c.number)
		}
		if got, ok := impl.CardField(c.card); got != (impl.Field{Num: 2, Data: c.card}) || !ok || !impl.FieldOk(got) {
			t.Errorf("the field of %s is %v, %v", c.card, got, ok)
		}
	}
}

func TestNoCards(t *testing.T) {
	for _, s := range []string{
		"", " ", "0", "4", "00", "41111", "79927398713", "00000000000", "12345678903", "00000000000000000000", "12345678901234567897", strings.Repeat("0", 100),
		"4111111111111112", "4111111111111110", "4111111111111101", "123456789014", "123456789016", "213456789015", "1234567890123456784", "999999999999",
		"411111111111111x", "x111111111111111", "4111111x11111111", "411111111111111", "41111111111111111", "4111 1111 1111 1111", "4111-1111-1111-1111",
		" 4111111111111111", "4111111111111111 ", "4111111111111111\n", "\n4111111111111111", "+4111111111111111", "-4111111111111111", "+000000000000", "-00000000000", "00000000000-",
		"4111111111111111\x00", "\x004111111111111111", "4111111111111111.", "4111111111111111.0", "4111111.11111111", "4e11111111111111", "0x411111111111111", "411111******1111",
		"000000000000x", "x000000000000", "00000000000 ", " 00000000000", "00000000000x", "00000000000:", "00000000000/", "０００００００００００００", "٠٠٠٠٠٠٠٠٠٠٠٠", "٠٠٠٠٠٠", "0000000000０", "0000000000²",
		"\xb0\xb0\xb0\xb0\xb0\xb0\xb0\xb0\xb0\xb0\xb0\xb0", strings.Repeat("\x00", 12), strings.Repeat(" ", 16), strings.Repeat("\xff", 19), "::::::::::::", "////////////",
	} {
		isNoCard(t, s)
	}
}

// A digit that is taken twice: 4 is 8, 5 is 10 less 9; one that is not is itself.
func TestOneDigitOfACheckDigit(t *testing.T) {
	twice := []int{0, 8, 6, 4, 2, 9, 7, 5, 3, 1}
	once := []int{0, 9, 8, 7, 6, 5, 4, 3, 2, 1}
	for n := leastCard - 1; n < mostCard; n++ {
		for at := range n {
			for digit := range 10 {
				head := strings.Repeat("0", at) + strconv.Itoa(digit) + strings.Repeat("0", n-1-at)
				want := once[digit]
				if (n-1-at)%2 == 0 {
					want = twice[digit]
				}
				if got := impl.CheckDigit(head); got != want || !impl.CardOk(head+strconv.Itoa(want)) {
					t.Errorf("CheckDigit(%q) = %d, want %d", head, got, want)
				}
			}
		}
	}
}

func TestCheckDigitMakesACard(t *testing.T) {
	for _, head := range someHeads() {
		digit := impl.CheckDigit(head)
		if !within(digit, 0, 9) {
			t.Errorf("CheckDigit(%q) = %d", head, digit)
		}
		for other := range 10 {
			card := head + strconv.Itoa(other)
			if got := askCard(t, card); got != (other == digit) {
				t.Errorf("with %d behind it %q is a card number: %v; its check digit is %d", other, head, got, digit)
			}
		}
		for b := range 256 {
			if card := head + oneByte(b); impl.CardOk(card) != (b == '0'+digit) {
				t.Errorf("CardOk(%q) = %v", card, impl.CardOk(card))
			}
		}
	}
}

func TestCheckDigitRefuses(t *testing.T) {
	for _, s := range []string{
		"", "4", "0000000000", "1234567890", "0000000000000000000", "1234567890123456789", "41111111111111x", "x11111111111111", "4111111 1111111", " 0000000000", "0000000000 ",
		"+0000000000", "-0000000000", "0000000000\n", "0000000000\x00", "0000000000:", "0000000000/", "00000000000x", "٠٠٠٠٠٠", "00000000０", strings.Repeat("0", 1000), strings.Repeat("\xb0", 11),
	} {
		if got := impl.CheckDigit(s); got != -1 {
			t.Errorf("CheckDigit(%.60q) = %d, want -1", s, got)
		}
		askCard(t, s)
	}
}

// Noughts alone are a card number as soon as they are as many as one has; so are all lengths asked for with a sum that is right.
func TestLengthsOfCards(t *testing.T) {
	for n := range 300 {
		noughts := strings.Repeat("0", n)
		if got := askCard(t, noughts); got != within(n, 12, 19) {
			t.Errorf("%d noughts are a card number: %v", n, got)
		}
		if got := impl.CheckDigit(noughts); (got == 0) != within(n, 11, 18) || (got == -1) == within(n, 11, 18) {
			t.Errorf("CheckDigit of %d noughts is %d", n, got)
		}
		for digit := range 10 {
			askCard(t, someDigits(n, n)+strconv.Itoa(digit))
		}
	}
	for _, n := range []int{1 << 8, 1<<8 + 12, 1<<8 + 16, 1<<16 + 12, 1<<16 + 16, 1 << 20} {
		isNoCard(t, strings.Repeat("0", n))
		isNoCard(t, strings.Repeat("4111111111111111", n/16))
		if got := impl.CheckDigit(strings.Repeat("0", n-1)); got != -1 {
			t.Errorf("CheckDigit of %d noughts is %d", n-1, got)
		}
	}
}

func TestOneDigitChanged(t *testing.T) {
	for _, card := range someCards() {
		for at := range len(card) {
			for digit := range 10 {
				other := card[:at] + strconv.Itoa(digit) + card[at+1:]
				if got := impl.CardOk(other); got != (other == card) {
					t.Errorf("%s for %s is a card number: %v", other, card, got)
				}
				if field, ok := impl.CardField(other); other != card && (impl.Mask(other) != "" || impl.Range(other) != -1 || ok || field != impl.Field{}) {
					t.Errorf("%s for %s is taken for a card number", other, card)
				}
			}
		}
	}
}

// askNeighbours changes the digits at two places of a card number for each other. Taken twice, 0 and 9 are what they are, so that they may stand in either order.
func askNeighbours(t *testing.T, card string, at int) string {
	t.Helper()
	kind := "differ"
	if pair := card[at : at+2]; pair[0] == pair[1] {
		kind = "alike"
	} else if pair == "09" || pair == "90" {
		kind = "0 and 9"
	}
	turned := askTurned(t, card, at)
	if got := askCard(t, turned); got != (kind != "differ") || (turned == card) != (kind == "alike") {
		t.Errorf("%s turned at %d is %s, which is a card number: %v", card, at, turned, got)
	}
	if again := askTurned(t, turned, at); again != card {
		t.Errorf("%s turned twice at %d is %s", card, at, again)
	}
	return kind
}

func TestNeighboursTurned(t *testing.T) {
	kinds := map[string]int{}
	for _, card := range someCards() {
		for at := range len(card) - 1 {
			kinds[askNeighbours(t, card, at)]++
		}
	}
	if min(kinds["differ"], kinds["alike"], kinds["0 and 9"]) < 200 {
		t.Error("too few were turned:", kinds)
	}
}

func TestNoughtAndNineByHand(t *testing.T) {
	for _, c := range []struct {
		card   string
		at     int
		turned string
		ok     bool
	}{
		{"000000000109", 10, "000000000190", true},
		{"000000000190", 10, "000000000109", true},
		{"000000000109", 9, "000000000019", false},
		{"000000000109", 8, "000000001009", false},
		{"900000000001", 0, "090000000001", true},
		{"090000000001", 1, "009000000001", true},
		{"090000000001", 10, "090000000010", false},
		{"123456789015", 8, "123456780915", true},
		{"123456789015", 7, "123456798015", false},
		{"123456789015", 9, "123456789105", false},
		{"123456789015", 10, "123456789051", false},
	} {
		if got := askTurned(t, c.card, c.at); got != c.turned || !impl.CardOk(c.card) || impl.CardOk(got) != c.ok {
			t.Errorf("%s turned at %d is %s, which is a card number: %v", c.card, c.at, got, impl.CardOk(got))
		}
	}
}

// Each two digits stand at each place of a card number of each length.
func TestEveryTwoNeighboursTurned(t *testing.T) {
	for n := leastCard; n <= mostCard; n++ {
		for at := range n - 1 {
			kinds := map[string]int{}
			for pair := range 100 {
				kinds[askNeighbours(t, cardWith(t, n, at, fmt.Sprintf("%02d", pair)), at)]++
			}
			if kinds["differ"] != 88 || kinds["alike"] != 10 || kinds["0 and 9"] != 2 {
				t.Errorf("at place %d of %d are turned %v", at, n, kinds)
			}
		}
	}
}

// cardWith is a card number of n digits that has two of them at a place; its first or, where they stand there, its last digit makes it one.
func cardWith(t *testing.T, n, at int, pair string) string {
	t.Helper()
	card := someDigits(at, n) + pair + someDigits(n-2-at, at)
	for digit := range 10 {
		for _, s := range []string{strconv.Itoa(digit) + card[1:], card[:n-1] + strconv.Itoa(digit)} {
			if wantCard(s) && s[at:at+2] == pair {
				return s
			}
		}
	}
	t.Fatalf("no card number of %d digits has %s at place %d", n, pair, at)
	return ""
}

func TestTurnedNamed(t *testing.T) {
	for _, c := range []struct {
		s    string
		i    int
		want string
	}{
		{"123", 0, "213"},
		{"123", 1, "132"},
		{"123", 2, "123"},
		{"123", 3, "123"},
		{"123", 4, "123"},
		{"123", -1, "123"},
		{"123", -2, "123"},
		{"123", -3, "123"},
		{"123", leastOfInt, "123"},
		{"123", greatestInt, "123"},
		{"123", greatestInt - 1, "123"},
		{"12", 0, "21"},
		{"12", 1, "12"},
		{"09", 0, "90"},
		{"90", 0, "09"},
		{"11", 0, "11"},
		{"1", 0, "1"},
		{"1", 1, "1"},
		{"1", -1, "1"},
		{"", 0, ""},
		{"", -1, ""},
		{"", 1, ""},
		{"", greatestInt, ""},
		{"1x3", 0, "1x3"},
		{"1x3", 1, "1x3"},
		{"x12", 1, "x21"},
		{"12x", 0, "21x"},
		{"x1y", 0, "x1y"},
		{"xy", 0, "xy"},
		{"1 2", 0, "1 2"},
		{"-1", 0, "-1"},
		{"1-", 0, "1-"},
		{"0/", 0, "0/"},
		{"/0", 0, "/0"},
		{"9:", 0, "9:"},
		{":9", 0, ":9"},
		{"ä12ä", 2, "ä21ä"},
		{"ä12ä", 1, "ä12ä"},
		{"1ä2", 1, "1ä2"},
		{"12\n", 0, "21\n"},
		{"\x0012\xff", 1, "\x0021\xff"},
		{"1\xb2", 0, "1\xb2"},
		{"123456789012345678901234567890", 28, "123456789012345678901234567809"},
		{"123456789012345678901234567890", 29, "123456789012345678901234567890"},
		{"4111111111111111", 0, "1411111111111111"},
		{"4111111111111112", 14, "4111111111111121"},
	} {
		if got := askTurned(t, c.s, c.i); got != c.want {
			t.Errorf("Turned(%q, %d) = %q, want %q", c.s, c.i, got, c.want)
		}
	}
}

func TestTurnedAnywhere(t *testing.T) {
	texts := []string{"", "1", "x", "12", "1x", "x1", "1x3", strings.Repeat("09", 40)}
	for n := range 25 {
		texts = append(texts, someDigits(n, n), someText(n, n), somePlain(n, 3*n), someDigits(n, 1)+"x", "x"+someDigits(n, 1))
	}
	for _, s := range texts {
		for _, at := range cardPlaces {
			askTurned(t, s, at)
		}
	}
	long := someDigits(1<<16, 4)
	for _, at := range []int{-1, 0, 1, 1<<15 - 1, 1<<16 - 3, 1<<16 - 2, 1<<16 - 1, 1 << 16, 1<<32 + 1} {
		askTurned(t, long, at)
	}
}

// Every two bytes stand beside each other once, and only where both are digits they are changed.
func TestTurnedAtEveryByte(t *testing.T) {
	for a := range 256 {
		for b := range 256 {
			pair := oneByte(a) + oneByte(b)
			if got := askTurned(t, "1"+pair+"2", 1); (got != "1"+pair+"2") != (areDigits(pair) && a != b) {
				t.Fatalf("Turned of %q is %q", pair, got)
			}
		}
	}
}

func TestTenDigitsAreSeen(t *testing.T) {
	for _, card := range someCards() {
		mask, size := impl.Mask(card), len(card)
		if len(mask) != size || mask[:6] != card[:6] || mask[size-4:] != card[size-4:] || strings.Trim(mask[6:size-4], "*") != "" {
			t.Errorf("of %s is seen %s", card, mask)
		}
		seen := 0
		for at := range mask {
			if mask[at] == card[at] {
				seen++
			}
		}
		if seen != 10 || strings.Count(mask, "*") != size-10 {
			t.Errorf("of %s %d digits are seen: %s", card, seen, mask)
		}
		isNoCard(t, mask)
	}
}

// Cards that differ in what is not seen alone look the same.
func TestMaskHidesTheRest(t *testing.T) {
	thrown := chance(51)
	for n := leastCard; n <= mostCard; n++ {
		alike := map[string]int{}
		for range 20000 {
			if card := "411111" + thrown.digits(n-10) + "0004"; impl.CardOk(card) {
				alike[impl.Mask(card)]++
			}
		}
		if want := "411111" + strings.Repeat("*", n-10) + "0004"; len(alike) != 1 || alike[want] < 1000 {
			t.Errorf("cards of %d digits are seen as %v", n, alike)
		}
	}
}

func TestEveryRange(t *testing.T) {
	for number := 0; number < 1000000; number += 1 + number%3 {
		head := fmt.Sprintf("%06d", number) + someDigits(5+number%8, number)
		card := head + strconv.Itoa(impl.CheckDigit(head))
		if got := impl.Range(card); got != number {
			t.Fatalf("Range(%q) = %d, want %d", card, got, number)
		}
	}
}

// A card number stands in a message as a field of its own.
func TestCardFieldsAreFields(t *testing.T) {
	for _, card := range someCards() {
		field, ok := impl.CardField(card)
		if field.Num != 2 || field.Data != card || !ok || !impl.FieldOk(field) || !wantFieldOk(field) {
			t.Fatalf("the field of %s is %v, %v", card, field, ok)
		}
		m, ok := impl.With(impl.Message{Kind: 1100, Fields: []impl.Field{{Num: 24, Data: "200"}}}, field.Num, field.Data)
		if !ok || m.Fields[0] != field {
			t.Fatalf("the message with %s is %v", card, m)
		}
		put, ok := impl.PackMessage(m)
		again, code, _ := impl.UnpackMessage(put)
		if !ok || code != impl.MsgOk || len(again.Fields) != 2 || again.Fields[0] != field {
			t.Fatalf("read again, the message with %s is %v", card, again)
		}
	}
}

func TestEveryByteInACard(t *testing.T) {
	for _, card := range []string{"000000000000", "123456789015", "4111111111111111", "1234567890123456785", "0000000000000000000", "1234567890", "12345678901", "123456789012345678"} {
		for at := range len(card) + 1 {
			for b := range 256 {
				texts := []string{card[:at] + oneByte(b) + card[at:]}
				if at < len(card) {
					texts = append(texts, card[:at]+oneByte(b)+card[at+1:])
				}
				for _, s := range texts {
					if askCard(t, s) && !areDigits(s) {
						t.Errorf("%q is a card number", s)
					}
					askTurned(t, s, at)
					askTurned(t, s, at-1)
				}
			}
			for end := at; end <= len(card); end++ {
				askCard(t, card[at:end])
				askCard(t, card[:at]+card[end:])
				askCard(t, card[:at]+strings.Repeat(" ", end-at)+card[end:])
			}
		}
	}
}

func TestAnythingAsACard(t *testing.T) {
	thrown := chance(150)
	for n := range 60 {
		askCard(t, someText(n, 3*n))
		askCard(t, somePlain(n, 7*n))
		askCard(t, someDigits(n, n))
		for range 200 {
			askCard(t, thrown.digits(n))
		}
	}
	for n := range 25 {
		for b := range 256 {
			askCard(t, strings.Repeat(oneByte(b), n))
		}
	}
}

// One of ten that have the digits of a card number is one.
func TestHowManyAreCards(t *testing.T) {
	for n := leastCard; n <= mostCard; n++ {
		for _, from := range []int{0, 10, 123400, 999000} {
			cards := 0
			for last := range 1000 {
				if impl.CardOk(someDigits(n-6, from) + fmt.Sprintf("%06d", from+last)) {
					cards++
				}
			}
			if cards != 100 {
				t.Errorf("of 1000 numbers of %d digits in a row %d are card numbers", n, cards)
			}
		}
	}
}

func TestTextsOfCardsAreNewMemory(t *testing.T) {
	for _, card := range someCards() {
		field, _ := impl.CardField(card)
		mask := impl.Mask(card)
		texts := []string{field.Data, mask}
		for _, at := range []int{-1, 0, 5, len(card) - 2, len(card) - 1, len(card)} {
			texts = append(texts, impl.Turned(card, at))
		}
		again, _ := impl.CardField(card)
		askTextsApart(t, card, texts, []string{card, again.Data, impl.Mask(card), impl.Turned(card, 0), impl.Turned(card, -1)})
	}
	for n := range 200 {
		s := someText(n, n)
		askTextsApart(t, "Turned", []string{impl.Turned(s, n/2), impl.Turned(s, n)}, []string{s})
	}
}

// cardAnswers are the answers of every function, in one order.
func cardAnswers() []string {
	var list []string
	for i, s := range slices.Concat(someCards(), someHeads(), []string{"", "x", "41111", strings.Repeat("0", 20)}) {
		field, ok := impl.CardField(s)
		list = append(list, fmt.Sprint(impl.CardOk(s), impl.CheckDigit(s), impl.Mask(s), impl.Range(s), impl.Turned(s, i%20), field, ok))
	}
	return list
}

func TestCardsAnswerTheSame(t *testing.T) {
	first := cardAnswers()
	for range 3 {
		if !slices.Equal(cardAnswers(), first) {
			t.Fatal("asked again, another answer is given")
		}
	}
	same := make([]bool, 16)
	var all sync.WaitGroup
	for i := range same {
		all.Go(func() { same[i] = slices.Equal(cardAnswers(), first) })
	}
	all.Wait()
	if slices.Contains(same, false) {
		t.Error("asked side by side, another answer is given")
	}
}
