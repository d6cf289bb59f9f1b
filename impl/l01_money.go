package impl

import (
	"strconv"
	"strings"
)

const MaxMoney = 1000000000000

const (
	maxRate  = 1000000
	maxParts = 100
)

// amount is wide enough that the greatest one times maxRate is still exact.
type amount int64

func (a amount) ok() bool {
	return -MaxMoney <= a && a <= MaxMoney
}

func (a amount) plus(b amount) (amount, bool) {
	// Both are asked ahead of the sum, which could wrap round otherwise.
	if !a.ok() || !b.ok() {
		return 0, false
	}
	sum := a + b
	if !sum.ok() {
		return 0, false
	}
	return sum, true
}

// dividedDown answers a rest of 0 .. n - 1 below 0 too, where Go's own division goes towards 0.
func (a amount) dividedDown(n amount) (amount, amount) {
	whole, rest := a/n, a%n
	if rest < 0 {
		return whole - 1, rest + n
	}
	return whole, rest
}

func (a amount) scaled(num amount, den amount) amount {
	whole, rest := (a * num).dividedDown(den)
	twice := 2 * rest
	if twice > den || twice == den && whole%2 != 0 {
		return whole + 1
	}
	return whole
}

func (a amount) text(digits int) string {
	sign := ""
	if a < 0 {
		sign, a = "-", -a
	}
	s := strconv.FormatInt(int64(a), 10)
	if digits == 0 {
		return sign + s
	}
	if len(s) <= digits {
		s = strings.Repeat("0", digits+1-len(s)) + s
	}
	point := len(s) - digits
	return sign + s[:point] + "." + s[point:]
}

func currencies() map[int]int {
	return map[int]int{36: 2, 392: 0, 756: 2, 826: 2, 840: 2, 978: 2, 48: 3, 414: 3}
}

func tenTo(n int) int {
	power := 1
	for range n {
		power *= 10
	}
	return power
}

func MoneyOk(x int) bool {
	return amount(x).ok()
}

func Digits(cur int) int {
	digits, known := currencies()[cur]
	if !known {
		return -1
	}
	return digits
}

func Plus(a int, b int) (int, bool) {
	sum, ok := amount(a).plus(amount(b))
	return int(sum), ok
}

func Total(list []int) (int, bool) {
	sum, ok := amount(0), true
	for _, x := range list {
		sum, ok = sum.plus(amount(x))
		if !ok {
			return 0, false
		}
	}
	return int(sum), true
}

func Scale(x int, num int, den int) (int, bool) {
	if !MoneyOk(x) || num < 0 || num > maxRate || den < 1 || den > maxRate {
		return 0, false
	}
	scaled := amount(x).scaled(amount(num), amount(den))
	if !scaled.ok() {
		return 0, false
	}
	return int(scaled), true
}

func Split(x int, parts int) ([]int, bool) {
	if !MoneyOk(x) || parts < 1 || parts > maxParts {
		return nil, false
	}
	least, greater := amount(x).dividedDown(amount(parts))
	list := make([]int, parts)
	for i := range list {
		list[i] = int(least)
		if i < int(greater) {
			list[i]++
		}
	}
	return list, true
}

func MoneyText(x int, cur int) string {
	digits := Digits(cur)
	if !MoneyOk(x) || digits < 0 {
		return ""
	}
	return amount(x).text(digits)
}

func ReadMoney(s string, cur int) (int, bool) {
	x, err := strconv.ParseInt(strings.Replace(s, ".", "", 1), 10, 64)
	// Telling it again refuses whatever reads as the number but is not its text.
	if err != nil || MoneyText(int(x), cur) != s {
		return 0, false
	}
	return int(x), true
}

func Convert(x int, from int, to int, num int, den int) (int, bool) {
	fromDigits, toDigits := Digits(from), Digits(to)
	if fromDigits < 0 || toDigits < 0 {
		return 0, false
	}
	// The upper bounds are asked here too, as the products could wrap round back into them.
	if num < 1 || num > maxRate || den < 1 || den > maxRate {
		return 0, false
	}
	return Scale(x, num*tenTo(toDigits), den*tenTo(fromDigits))
}
