package tests

import (
	"math"
	"math/big"
	"slices"
	"strconv"
	"strings"
	"testing"

	"loop.example/g00126/impl"
)

const most = impl.MaxMoney

// edgeInts are the ints at which a bound of the chapter, or of int itself, is met or passed.
var edgeInts = []int{
	math.MinInt, math.MinInt + 1, -1 << 32, -most - 1, -most, -most + 1, -1000001, -1000000, -101, -100, -3, -2, -1,
	0, 1, 2, 3, 48, 99, 100, 101, 392, 840, 999999, 1000000, 1000001, most - 1, most, most + 1, 1 << 32, math.MaxInt - 1, math.MaxInt,
}

var currencyDigits = map[int]int{36: 2, 392: 0, 756: 2, 826: 2, 840: 2, 978: 2, 48: 3, 414: 3}

// wantAmount holds (got, ok) against an answer worked out in big numbers; nil stands for a refusal.
func wantAmount(t *testing.T, what string, got int, ok bool, want *big.Int) {
	t.Helper()
	if want == nil {
		if ok || got != 0 {
			t.Errorf("%s: answered %d, %v; want 0, false", what, got, ok)
		}
		return
	}
	if !ok || want.Cmp(big.NewInt(int64(got))) != 0 {
		t.Errorf("%s: answered %d, %v; want %v, true", what, got, ok, want)
	}
}

func isAmount(x int) bool { return x >= -most && x <= most }

func amountOrNil(x *big.Int) *big.Int {
	if x.CmpAbs(big.NewInt(most)) > 0 {
		return nil
	}
	return x
}

func within(x, least, greatest int) bool { return least <= x && x <= greatest }

// told names a call in a failure.
func told(name string, args ...int) string {
	words := make([]string, len(args))
	for i, x := range args {
		words[i] = strconv.Itoa(x)
	}
	return name + "(" + strings.Join(words, ", ") + ")"
}

func TestMoneyOk(t *testing.T) {
	if impl.MaxMoney != 1000000000000 {
		t.Error("MaxMoney is", impl.MaxMoney)
	}
	for _, x := range []int{0, 1, -1, 12345, most - 1, most, -most + 1, -most} {
		if !impl.MoneyOk(x) {
			t.Error("refused", x)
		}
	}
	for _, x := range []int{most + 1, -most - 1, 10 * most, -10 * most, math.MaxInt, math.MinInt, math.MinInt + 1} {
		if impl.MoneyOk(x) {
			t.Error("accepted", x)
		}
	}
}

func TestDigits(t *testing.T) {
	for cur := -1100; cur <= 1100; cur++ {
		want, known := currencyDigits[cur]
		if !known {
			want = -1
		}
		if got := impl.Digits(cur); got != want {
			t.Errorf("Digits(%d) = %d, want %d", cur, got, want)
		}
	}
	for _, cur := range []int{math.MinInt, math.MaxInt, 840 + 1<<32, 840 + 1<<16, -840, 8400} {
		if got := impl.Digits(cur); got != -1 {
			t.Errorf("Digits(%d) = %d, want -1", cur, got)
		}
	}
}

func TestPlusOrdinary(t *testing.T) {
	for _, c := range [][3]int{{1, 2, 3}, {0, 0, 0}, {-5, 3, -2}, {5, -5, 0}, {most, 0, most}, {-most, 0, -most}, {most, -most, 0}, {most - 1, 1, most}, {-most + 1, -1, -most}} {
		if got, ok := impl.Plus(c[0], c[1]); !ok || got != c[2] {
			t.Errorf("Plus(%d, %d) = %d, %v", c[0], c[1], got, ok)
		}
	}
	for _, c := range [][2]int{{most, 1}, {-most, -1}, {most + 1, -1}, {-1, most + 1}, {-most - 1, 1}, {1, -most - 1}, {math.MaxInt, math.MinInt}, {math.MinInt, math.MinInt}, {math.MaxInt, math.MaxInt}} {
		if got, ok := impl.Plus(c[0], c[1]); ok || got != 0 {
			t.Errorf("Plus(%d, %d) = %d, %v", c[0], c[1], got, ok)
		}
	}
}

func TestPlusIsTheSum(t *testing.T) {
	for _, a := range edgeInts {
		for _, b := range edgeInts {
			var want *big.Int
			if isAmount(a) && isAmount(b) {
				want = amountOrNil(new(big.Int).Add(big.NewInt(int64(a)), big.NewInt(int64(b))))
			}
			got, ok := impl.Plus(a, b)
			wantAmount(t, told("Plus", a, b), got, ok, want)
		}
	}
}

func TestTotal(t *testing.T) {
	cases := []struct {
		list []int
		want int
		ok   bool
	}{
		{nil, 0, true},
		{[]int{}, 0, true},
		{[]int{7}, 7, true},
		{[]int{5, -2, 4}, 7, true},
		{[]int{most}, most, true},
		{[]int{-most}, -most, true},
		{[]int{most, -most, -most, most}, 0, true},
		{[]int{most - 1, 1}, most, true},
		{[]int{most, -1, 1}, most, true},
		// The sum of all is an amount, one on the way is none.
		{[]int{most, 1, -1}, 0, false},
		{[]int{-most, -1, 1}, 0, false},
		{[]int{1, most, -most}, 0, false},
		// One that is no amount, though its sum would be.
		{[]int{most + 1}, 0, false},
		{[]int{-most - 1}, 0, false},
		{[]int{-1, most + 1}, 0, false},
		{[]int{1, -most - 1}, 0, false},
		{[]int{1, 2, math.MaxInt}, 0, false},
		{[]int{math.MaxInt, math.MinInt}, 0, false},
		{[]int{math.MinInt, math.MinInt}, 0, false},
		{[]int{1, 2, math.MinInt, 3}, 0, false},
	}
	for _, c := range cases {
		if got, ok := impl.Total(c.list); got != c.want || ok != c.ok {
			t.Errorf("Total(%v) = %d, %v; want %d, %v", c.list, got, ok, c.want, c.ok)
		}
	}
}

func TestTotalOfMany(t *testing.T) {
	list := make([]int, 100001)
	want := 0
	for i := range list {
		list[i] = (i*7919)%2001 - 1000
		want += list[i]
	}
	if got, ok := impl.Total(list); !ok || got != want {
		t.Errorf("answered %d, %v; want %d", got, ok, want)
	}
}

func TestTotalWritesIntoNothing(t *testing.T) {
	room := []int{1, 2, most, 4, 5}
	before := slices.Clone(room)
	impl.Total(room[:2])
	impl.Total(room)
	if !slices.Equal(room, before) {
		t.Error("the list became", room)
	}
}

// nearest is x times num / den in big numbers, of two that are equally near the even one.
func nearest(x, num, den int) *big.Int {
	product := new(big.Int).Mul(big.NewInt(int64(x)), big.NewInt(int64(num)))
	down, rest := new(big.Int).DivMod(product, big.NewInt(int64(den)), new(big.Int))
	side := new(big.Int).Lsh(rest, 1).Cmp(big.NewInt(int64(den)))
	if side > 0 || side == 0 && down.Bit(0) == 1 {
		down.Add(down, big.NewInt(1))
	}
	return down
}

func scaleWanted(x, num, den int) *big.Int {
	if !isAmount(x) || !within(num, 0, 1000000) || !within(den, 1, 1000000) {
		return nil
	}
	return amountOrNil(nearest(x, num, den))
}

func TestScaleOrdinary(t *testing.T) {
	cases := [][4]int{
		{10, 1, 3, 3}, {11, 1, 3, 4}, {-10, 1, 3, -3}, {-11, 1, 3, -4}, {100, 19, 100, 19}, {200, 3, 2, 300}, {0, 5, 7, 0}, {9, 0, 7, 0}, {-9, 0, 1, 0},
		// Halves on both sides of 0 go to the even one.
		{1, 1, 2, 0}, {3, 1, 2, 2}, {5, 1, 2, 2}, {7, 1, 2, 4}, {-1, 1, 2, 0}, {-3, 1, 2, -2}, {-5, 1, 2, -2}, {-7, 1, 2, -4},
		{1, 500000, 1000000, 0}, {3, 500000, 1000000, 2}, {-3, 500000, 1000000, -2},
		// Hardly off a half goes to the nearer one.
		{1, 500001, 1000000, 1}, {3, 499999, 1000000, 1}, {-1, 500001, 1000000, -1}, {-3, 499999, 1000000, -1},
		{1, 1, 1000000, 0}, {-1, 1, 1000000, 0}, {1, 999999, 1000000, 1}, {-1, 999999, 1000000, -1},
		// Bounds that are met.
		{most, 1, 1, most}, {-most, 1, 1, -most}, {most, 1000000, 1000000, most}, {-most, 1000000, 1000000, -most},
		{1000000, 1000000, 1, most}, {-1000000, 1000000, 1, -most}, {most, 1, 1000000, 1000000}, {most, 0, 1, 0},
		{most - 1, 1, 2, most / 2}, {most - 1, 999999, 1000000, most - 1000001},
	}
	for _, c := range cases {
		if got, ok := impl.Scale(c[0], c[1], c[2]); !ok || got != c[3] {
			t.Errorf("%s = %d, %v; want %d", told("Scale", c[0], c[1], c[2]), got, ok, c[3])
		}
	}
}

func TestScaleRefuses(t *testing.T) {
	cases := [][3]int{
		{most + 1, 1, 2}, {-most - 1, 1, 2}, {most + 1, 0, 1}, {math.MinInt, 0, 1}, {math.MaxInt, 1, 1000000},
		{1, -1, 1}, {0, -1, 1}, {1, 1000001, 1000000}, {0, 1000001, 1}, {1, 1, 0}, {0, 0, 0}, {1, 1, -1}, {-1, -1, -1}, {1, 1, 1000001},
		{most, 2, 1}, {-most, 2, 1}, {most, 1000000, 999999}, {-most, 1000000, 999999}, {1000001, 1000000, 1}, {most, 1000000, 1}, {-most, 1000000, 1},
		{1, math.MaxInt, 1}, {1, math.MinInt, 1}, {1, 1, math.MinInt}, {1, 1, math.MaxInt},
	}
	for _, c := range cases {
		if got, ok := impl.Scale(c[0], c[1], c[2]); ok || got != 0 {
			t.Errorf("%s = %d, %v; want 0, false", told("Scale", c[0], c[1], c[2]), got, ok)
		}
	}
}

// What comes out is rounded first and held against the bounds then.
func TestScaleAtTheBoundOfWhatComesOut(t *testing.T) {
	for _, c := range [][2]int{{999999, 1000000}, {999998, 999999}, {2, 3}, {1, 2}, {3, 7}} {
		near := most / c[1] * c[0]
		for x := near - 5; x <= near+5; x++ {
			for _, y := range []int{x, -x} {
				got, ok := impl.Scale(y, c[1], c[0])
				wantAmount(t, told("Scale", y, c[1], c[0]), got, ok, scaleWanted(y, c[1], c[0]))
			}
		}
	}
}

func TestScaleIsTheNearest(t *testing.T) {
	for _, x := range edgeInts {
		for _, num := range edgeInts {
			for _, den := range edgeInts {
				got, ok := impl.Scale(x, num, den)
				wantAmount(t, told("Scale", x, num, den), got, ok, scaleWanted(x, num, den))
			}
		}
	}
	for x := -40; x <= 40; x++ {
		for num := -1; num <= 12; num++ {
			for den := -1; den <= 12; den++ {
				got, ok := impl.Scale(x, num, den)
				wantAmount(t, told("Scale", x, num, den), got, ok, scaleWanted(x, num, den))
			}
		}
	}
}

func TestSplitOrdinary(t *testing.T) {
	cases := []struct {
		x, parts int
		want     []int
	}{
		{10, 3, []int{4, 3, 3}}, {-10, 3, []int{-3, -3, -4}}, {9, 3, []int{3, 3, 3}}, {-9, 3, []int{-3, -3, -3}}, {11, 3, []int{4, 4, 3}}, {-11, 3, []int{-3, -4, -4}},
		{0, 2, []int{0, 0}}, {1, 3, []int{1, 0, 0}}, {-1, 3, []int{0, 0, -1}}, {7, 1, []int{7}}, {most, 1, []int{most}}, {-most, 1, []int{-most}}, {most, 2, []int{most / 2, most / 2}},
	}
	for _, c := range cases {
		if got, ok := impl.Split(c.x, c.parts); !ok || !slices.Equal(got, c.want) {
			t.Errorf("%s = %v, %v; want %v", told("Split", c.x, c.parts), got, ok, c.want)
		}
	}
}

func TestSplitRefuses(t *testing.T) {
	for _, c := range [][2]int{{1, 0}, {1, -1}, {1, 101}, {0, 0}, {0, 101}, {most + 1, 1}, {-most - 1, 1}, {most + 1, 100}, {-most - 1, 100}, {1, math.MaxInt}, {1, math.MinInt}, {math.MaxInt, 2}, {math.MinInt, 2}, {math.MinInt, -1}} {
		if got, ok := impl.Split(c[0], c[1]); ok || len(got) != 0 {
			t.Errorf("%s = %v, %v; want nothing, false", told("Split", c[0], c[1]), got, ok)
		}
	}
}

func checkSplit(t *testing.T, x, parts int) {
	t.Helper()
	list, ok := impl.Split(x, parts)
	if !ok || len(list) != parts {
		t.Errorf("%s: %d parts, %v", told("Split", x, parts), len(list), ok)
		return
	}
	sum := 0
	for i, y := range list {
		sum += y
		if !isAmount(y) || i > 0 && y > list[i-1] {
			t.Errorf("%s: place %d is %d", told("Split", x, parts), i, y)
		}
	}
	if sum != x || list[0]-list[parts-1] > 1 {
		t.Errorf("%s: makes up %d, from %d to %d", told("Split", x, parts), sum, list[0], list[parts-1])
	}
}

func TestSplitMakesUpTheAmount(t *testing.T) {
	for parts := 1; parts <= 100; parts++ {
		for x := -205; x <= 205; x++ {
			checkSplit(t, x, parts)
		}
		for _, x := range edgeInts {
			if isAmount(x) {
				checkSplit(t, x, parts)
			}
		}
	}
}

func TestSplitIsNewMemory(t *testing.T) {
	one, _ := impl.Split(10, 3)
	two, _ := impl.Split(10, 3)
	if len(one) != 3 || len(two) != 3 {
		t.Fatal("answered", one, two)
	}
	one[0], one[1], one[2] = 77, 77, 77
	if three, _ := impl.Split(10, 3); !slices.Equal(two, []int{4, 3, 3}) || !slices.Equal(three, []int{4, 3, 3}) {
		t.Error("became", two, three)
	}
}

func TestMoneyText(t *testing.T) {
	cases := []struct {
		x, cur int
		want   string
	}{
		{0, 840, "0.00"}, {5, 840, "0.05"}, {50, 840, "0.50"}, {99, 840, "0.99"}, {100, 840, "1.00"}, {1234, 840, "12.34"}, {100000, 36, "1000.00"},
		{-1, 840, "-0.01"}, {-99, 978, "-0.99"}, {-100, 826, "-1.00"}, {-1234, 756, "-12.34"},
		{0, 392, "0"}, {7, 392, "7"}, {-7, 392, "-7"}, {100, 392, "100"}, {-100, 392, "-100"},
		{0, 48, "0.000"}, {1, 48, "0.001"}, {-1, 414, "-0.001"}, {999, 48, "0.999"}, {1000, 414, "1.000"}, {1500, 48, "1.500"}, {-12345, 48, "-12.345"},
		{most, 840, "10000000000.00"}, {-most, 840, "-10000000000.00"}, {most, 392, "1000000000000"}, {-most, 392, "-1000000000000"}, {most, 414, "1000000000.000"}, {-most, 48, "-1000000000.000"},
		{most - 1, 840, "9999999999.99"}, {-most + 1, 392, "-999999999999"},
		{most + 1, 840, ""}, {-most - 1, 840, ""}, {most + 1, 392, ""}, {-most - 1, 48, ""}, {math.MaxInt, 840, ""}, {math.MinInt, 840, ""}, {math.MinInt, 392, ""},
		{1, 1, ""}, {0, 0, ""}, {5, -1, ""}, {5, -840, ""}, {5, 841, ""}, {5, math.MaxInt, ""}, {5, math.MinInt, ""}, {most + 1, 1, ""},
	}
	for _, c := range cases {
		if got := impl.MoneyText(c.x, c.cur); got != c.want {
			t.Errorf("%s = %q, want %q", told("MoneyText", c.x, c.cur), got, c.want)
		}
	}
}

func TestReadMoneyReads(t *testing.T) {
	cases := []struct {
		s         string
		cur, want int
	}{
		{"0.00", 840, 0}, {"0.05", 840, 5}, {"12.34", 840, 1234}, {"-12.34", 840, -1234}, {"-0.01", 36, -1}, {"7", 392, 7}, {"0", 392, 0}, {"-10", 392, -10}, {"1.500", 48, 1500}, {"-0.001", 414, -1},
		{"10000000000.00", 840, most}, {"-10000000000.00", 840, -most}, {"1000000000000", 392, most}, {"-1000000000.000", 48, -most},
	}
	for _, c := range cases {
		if got, ok := impl.ReadMoney(c.s, c.cur); !ok || got != c.want {
			t.Errorf("ReadMoney(%q, %d) = %d, %v; want %d", c.s, c.cur, got, ok, c.want)
		}
	}
}

func TestReadMoneyRefuses(t *testing.T) {
	nearly := map[int][]string{
		840: {
			"", "-", ".", "-.", "0", "5", "1234", "1.", "1.5", "1.500", ".05", "-.05", "01.00", "00.00", "-01.00", "-0.00", "+0.05", "+1.00", "--1.00", "-+1.00", "1,00", "1..00", "1.0.0", "1.00.", ".1.00", "1.00-", "1.-5", "1.+5",
			" 1.00", "1.00 ", "1 .00", "1.00\n", "\t1.00", "1.0a", "a.00", "0x1.00", "1_0.00", "1e2.00", "1.00\x00", "\xff1.00", "1\u066b00", "\u0661.00", "100.", "1000.0",
			"10000000000.01", "-10000000000.01", "92233720368547758.07", "-92233720368547758.08", "92233720368547758.08", "184467440737095516.16", "184467440737095516.21", "99999999999999999999999999.99", "1" + strings.Repeat("0", 5000) + ".00", strings.Repeat("0", 5000) + "1.00",
		},
		392: {"", "-", "-0", "00", "01", "-01", "+1", "1.", "1.0", ".1", ".", "0.", "1.00", " 1", "1 ", "1e3", "1_000", "0x1", "1000000000001", "-1000000000001", "9223372036854775807", "-9223372036854775808", "18446744073709551617"},
		48:  {"", "0", "1.5", "1.50", "0.00", "-0.000", "1.5000", ".500", "01.500", "1,500", "1.500.", "1000000000.001", "-1000000000.001"},
	}
	for cur, texts := range nearly {
		for _, s := range texts {
			if got, ok := impl.ReadMoney(s, cur); ok || got != 0 {
				t.Errorf("ReadMoney(%q, %d) = %d, %v; want 0, false", s, cur, got, ok)
			}
		}
	}
	for _, cur := range []int{0, 1, -1, -840, 841, math.MaxInt, math.MinInt} {
		for _, s := range []string{"", "0", "1", "1.00", "-12.34", "1.500"} {
			if got, ok := impl.ReadMoney(s, cur); ok || got != 0 {
				t.Errorf("ReadMoney(%q, %d) = %d, %v; want 0, false", s, cur, got, ok)
			}
		}
	}
}

func TestAmountsComeBackFromTheirTexts(t *testing.T) {
	for cur := range currencyDigits {
		xs := slices.Clone(edgeInts)
		for x := -2100; x <= 2100; x++ {
			xs = append(xs, x)
		}
		for x := 1; x < most; x = x*7 + 3 {
			xs = append(xs, x, -x)
		}
		for _, x := range xs {
			if !isAmount(x) {
				continue
			}
			s := impl.MoneyText(x, cur)
			if got, ok := impl.ReadMoney(s, cur); !ok || got != x {
				t.Errorf("%s = %q is read as %d, %v", told("MoneyText", x, cur), s, got, ok)
			}
		}
	}
}

// What is read is told as the very text, whatever bytes the text is made of.
func TestReadMoneyOfShortTexts(t *testing.T) {
	const letters = "019.-+ "
	texts := []string{""}
	for i := 0; i < len(texts); i++ {
		s := texts[i]
		for cur := range currencyDigits {
			x, ok := impl.ReadMoney(s, cur)
			if ok && impl.MoneyText(x, cur) != s || !ok && x != 0 {
				t.Errorf("ReadMoney(%q, %d) = %d, %v", s, cur, x, ok)
			}
		}
		for j := 0; j < len(letters) && len(s) < 5; j++ {
			texts = append(texts, s+letters[j:j+1])
		}
	}
}

func TestConvertOrdinary(t *testing.T) {
	cases := [][6]int{
		{100, 840, 392, 150, 1, 150}, {1000, 48, 840, 1, 1, 100}, {100, 840, 48, 1, 1, 1000}, {150, 392, 840, 1, 150, 100}, {1234, 840, 840, 1, 1, 1234}, {-1234, 840, 978, 1, 2, -617},
		{7, 392, 414, 1, 1, 7000}, {7000, 414, 392, 1, 1, 7}, {0, 840, 392, 1, 1, 0},
		// Halves on both sides of 0 go to the even one.
		{50, 840, 392, 1, 1, 0}, {150, 840, 392, 1, 1, 2}, {250, 840, 392, 1, 1, 2}, {-50, 840, 392, 1, 1, 0}, {-150, 840, 392, 1, 1, -2}, {-250, 840, 392, 1, 1, -2}, {1500, 48, 392, 1, 1, 2}, {15, 48, 840, 1, 1, 2}, {25, 48, 840, 1, 1, 2},
		// num and den meet their bounds together with the digits.
		{1, 392, 392, 1000000, 1000000, 1}, {1, 840, 840, 10000, 10000, 1}, {1, 48, 414, 1000, 1000, 1}, {1000, 48, 392, 1000000, 1000, 1000}, {1, 392, 414, 1000, 1000000, 1},
		{most, 840, 840, 1, 1, most}, {-most, 840, 36, 1, 1, -most}, {most / 1000, 392, 48, 1, 1, most}, {most, 48, 392, 1, 1, most / 1000},
	}
	for _, c := range cases {
		if got, ok := impl.Convert(c[0], c[1], c[2], c[3], c[4]); !ok || got != c[5] {
			t.Errorf("%s = %d, %v; want %d", told("Convert", c[:5]...), got, ok, c[5])
		}
	}
}

func TestConvertRefuses(t *testing.T) {
	cases := [][5]int{
		{1, 1, 840, 1, 1}, {1, 840, 1, 1, 1}, {1, 0, 0, 1, 1}, {1, -1, 840, 1, 1}, {1, 840, math.MinInt, 1, 1}, {1, math.MaxInt, 840, 1, 1},
		{1, 840, 840, 0, 1}, {0, 840, 840, 0, 1}, {1, 840, 840, 1, 0}, {1, 840, 840, -1, 1}, {1, 840, 840, 1, -1}, {1, 840, 840, -1, -1},
		{1, 392, 392, 1000001, 1}, {1, 392, 392, 1, 1000001}, {1, 840, 840, 10001, 1}, {1, 840, 840, 1, 10001}, {1, 48, 48, 1001, 1}, {1, 48, 48, 1, 1001},
		{most + 1, 840, 840, 1, 1}, {-most - 1, 840, 840, 1, 1}, {math.MinInt, 840, 392, 1, 1}, {math.MaxInt, 840, 392, 1, 1}, {most, 840, 840, 2, 1}, {-most, 392, 840, 1, 1}, {most/1000 + 1, 392, 48, 1, 1},
		// Times 100 or 1000 these wrap round to a number that would do.
		{1, 840, 840, 1 << 62, 1}, {1, 840, 840, 1<<62 + 1, 1}, {1, 840, 840, 1, 1<<62 + 1}, {1, 48, 48, 1<<61 + 1, 1}, {1, 48, 48, 1, 1<<61 + 1}, {1, 840, 840, math.MaxInt, math.MaxInt}, {1, 840, 840, math.MinInt + 1, math.MinInt + 1},
	}
	for _, c := range cases {
		if got, ok := impl.Convert(c[0], c[1], c[2], c[3], c[4]); ok || got != 0 {
			t.Errorf("%s = %d, %v; want 0, false", told("Convert", c[:]...), got, ok)
		}
	}
}

func convertWanted(x, from, to, num, den int) *big.Int {
	fromDigits, fromKnown := currencyDigits[from]
	toDigits, toKnown := currencyDigits[to]
	if !fromKnown || !toKnown || !within(num, 1, 1000000) || !within(den, 1, 1000000) {
		return nil
	}
	powers := []int{1, 10, 100, 1000}
	return scaleWanted(x, num*powers[toDigits], den*powers[fromDigits])
}

func TestConvertIsScale(t *testing.T) {
	for _, from := range []int{392, 840, 48, 5, math.MinInt} {
		for _, to := range []int{392, 978, 414, 0, math.MaxInt} {
			for _, num := range append([]int{1000, 1001, 10000, 10001}, edgeInts...) {
				for _, den := range append([]int{1000, 1001, 10000, 10001}, edgeInts...) {
					for _, x := range edgeInts {
						got, ok := impl.Convert(x, from, to, num, den)
						wantAmount(t, told("Convert", x, from, to, num, den), got, ok, convertWanted(x, from, to, num, den))
					}
				}
			}
		}
	}
}

// Every function answers at any ints; what it answers then is held by the tests above.
func TestMoneyNeverPanics(t *testing.T) {
	for _, a := range edgeInts {
		impl.MoneyOk(a)
		impl.Digits(a)
		impl.Total([]int{a})
		for _, b := range edgeInts {
			impl.Total([]int{a, b})
			if list, ok := impl.Split(a, b); ok != (isAmount(a) && within(b, 1, 100)) || !ok && len(list) != 0 {
				t.Error(told("Split", a, b), list, ok)
			}
			_, known := currencyDigits[b]
			if s := impl.MoneyText(a, b); (s != "") != (isAmount(a) && known) {
				t.Error(told("MoneyText", a, b), s)
			}
			impl.ReadMoney(strconv.Itoa(a), b)
		}
	}
}
