package impl

import (
	"cmp"
	"math"
	"math/bits"
	"strconv"
	"strings"
)

const MaxDigits = 15
const MaxExp = 300
const RoundEven = 0
const RoundAway = 1
const RoundDown = 2
const RoundUp = 3

// The bounds that the document tells at their places.
const (
	maxDigitsExp = 1000
	maxPower     = 1000
	maxPlaces    = 300
	maxDecText   = 100
	maxExpText   = 4
	minPointed   = -5
)

// wideDigits: every number of so many digits fits into two words, and still
// does with a second one on top of it.
const wideDigits = 38

type Dec struct {
	Neg    bool
	Digits int
	Exp    int
}

type DecRes struct {
	Ok  bool
	Dec Dec
}

// wide is a whole number of two words: a product of two numbers of fifteen
// digits does not fit into one.
type wide struct {
	hi uint64
	lo uint64
}

// tens are the powers of ten that fit into one word.
var tens = [20]uint64{
	1, 10, 100, 1000, 10000,
	100000, 1000000, 10000000, 100000000, 1000000000,
	10000000000, 100000000000, 1000000000000, 10000000000000, 100000000000000,
	1000000000000000, 10000000000000000, 100000000000000000, 1000000000000000000, 10000000000000000000,
}

const maxTens = 19

// What was cut off a number, in units of its last digit.
const (
	restNone = iota
	restBelowHalf
	restHalf
	restAboveHalf
)

// rounding is a mode: whether a number that was cut goes one on, away from 0.
type rounding func(odd bool, rest int) bool

func toEven(odd bool, rest int) bool {
	return rest == restAboveHalf || rest == restHalf && odd
}

func toAway(odd bool, rest int) bool { return rest >= restHalf }

func toDown(odd bool, rest int) bool { return false }

func toUp(odd bool, rest int) bool { return rest != restNone }

func roundingOf(mode int) (rounding, bool) {
	switch mode {
	case RoundEven:
		return toEven, true
	case RoundAway:
		return toAway, true
	case RoundDown:
		return toDown, true
	case RoundUp:
		return toUp, true
	}
	return nil, false
}

func product(a uint64, b uint64) wide {
	hi, lo := bits.Mul64(a, b)
	return wide{hi, lo}
}

func (w wide) plus(v wide) wide {
	lo, carry := bits.Add64(w.lo, v.lo, 0)
	hi, _ := bits.Add64(w.hi, v.hi, carry)
	return wide{hi, lo}
}

func (w wide) minus(v wide) wide {
	lo, borrow := bits.Sub64(w.lo, v.lo, 0)
	hi, _ := bits.Sub64(w.hi, v.hi, borrow)
	return wide{hi, lo}
}

func (w wide) times(n uint64) wide {
	p := product(w.lo, n)
	p.hi += w.hi * n
	return p
}

func (w wide) over(n uint64) (wide, uint64) {
	hi, rest := w.hi/n, w.hi%n
	lo, rest := bits.Div64(rest, w.lo, n)
	return wide{hi, lo}, rest
}

func (w wide) less(v wide) bool {
	return w.hi < v.hi || w.hi == v.hi && w.lo < v.lo
}

// length counts the digits; 0 has none.
func (w wide) length() int {
	n := 0
	for n <= wideDigits && !w.less(wideTen(n)) {
		n++
	}
	return n
}

func wideTen(n int) wide {
	one := min(n, maxTens)
	return product(tens[one], tens[n-one])
}

// raised is w * 10^n; the caller sees to it that it fits.
func (w wide) raised(n int) wide {
	return w.times(tens[min(n, maxTens)]).times(tens[max(n-maxTens, 0)])
}

// lowered is w without its last n digits, and whether one of them was not 0.
func (w wide) lowered(n int) (wide, bool) {
	more := false
	for n > 0 && w != (wide{}) {
		step := min(n, maxTens)
		q, rest := w.over(tens[step])
		w, more, n = q, more || rest != 0, n-step
	}
	return w, more
}

// shortened takes off the last n digits (n is at least 1) and rounds; more says
// that something below the last digit was left out before, so that no tie and
// no exact number is taken for one.
func (w wide) shortened(n int, more bool, mode rounding) wide {
	w, lost := w.lowered(n - 1)
	w, last := w.over(10)
	if mode(w.lo%2 == 1, restOf(last, more || lost)) {
		w = w.plus(wide{0, 1})
	}
	return w
}

func restOf(last uint64, more bool) int {
	switch {
	case last > 5 || last == 5 && more:
		return restAboveHalf
	case last == 5:
		return restHalf
	case last > 0 || more:
		return restBelowHalf
	}
	return restNone
}

// rootOf is the greatest whole number whose square is not above w.
func rootOf(w wide) uint64 {
	root := uint64(0)
	for bit := uint64(1) << 63; bit > 0; bit >>= 1 {
		if try := root | bit; !w.less(product(try, try)) {
			root = try
		}
	}
	return root
}

// put makes a decimal of w * 10^exp. With more there is something above w and
// below w + 1; w has more than MaxDigits digits then.
func put(neg bool, w wide, exp int, more bool) DecRes {
	if cut := w.length() - MaxDigits; cut > 0 {
		w = w.shortened(cut, more, toEven)
		exp += cut
	}
	return fitted(neg, w.lo, exp)
}

func fitted(neg bool, digits uint64, exp int) DecRes {
	if digits == 0 {
		return DecRes{Ok: true}
	}
	for digits%10 == 0 {
		digits /= 10
		exp++
	}
	if exp > MaxExp {
		return DecRes{}
	}
	if exp < -MaxExp {
		return DecRes{Ok: true}
	}
	return DecRes{Ok: true, Dec: Dec{Neg: neg, Digits: int(digits), Exp: exp}}
}

func sizeOf(a Dec) wide { return wide{0, uint64(a.Digits)} }

func within(n int, most int) bool { return -most <= n && n <= most }

// GoodDec says whether a is the one decimal that stands for its number.
func GoodDec(a Dec) bool {
	if a.Digits == 0 {
		return a == Dec{}
	}
	return a.Digits > 0 && uint64(a.Digits) < tens[MaxDigits] && a.Digits%10 != 0 && within(a.Exp, MaxExp)
}

// DecOf puts digits * 10^exp.
func DecOf(digits int, exp int) DecRes {
	if !within(exp, maxDigitsExp) {
		return DecRes{}
	}
	size := uint64(digits)
	if digits < 0 {
		// the least int has no opposite among the ints, but one here
		size = -size
	}
	return put(digits < 0, wide{0, size}, exp, false)
}

// DecAdd puts a + b.
func DecAdd(a Dec, b Dec) DecRes {
	if !GoodDec(a) || !GoodDec(b) {
		return DecRes{}
	}
	// 0 stands at no place: its Exp must not be held against the other's
	if a == (Dec{}) {
		return DecRes{Ok: true, Dec: b}
	}
	if b == (Dec{}) {
		return DecRes{Ok: true, Dec: a}
	}
	return putSum(a, b)
}

// putSum puts a + b, neither of them 0, both brought to the lesser Exp.
func putSum(a Dec, b Dec) DecRes {
	if a.Exp < b.Exp {
		a, b = b, a
	}
	apart := a.Exp - b.Exp
	if apart > wideDigits-sizeOf(a).length() {
		// b begins more than twenty digits behind a's first one: rounding leaves a
		return DecRes{Ok: true, Dec: a}
	}
	high, low := sizeOf(a).raised(apart), sizeOf(b)
	switch {
	case a.Neg == b.Neg:
		return put(a.Neg, high.plus(low), b.Exp, false)
	case high.less(low):
		return put(b.Neg, low.minus(high), b.Exp, false)
	}
	return put(a.Neg, high.minus(low), b.Exp, false)
}

// DecSub puts a - b.
func DecSub(a Dec, b Dec) DecRes {
	if b.Digits != 0 {
		b.Neg = !b.Neg
	}
	return DecAdd(a, b)
}

// DecMul puts a * b.
func DecMul(a Dec, b Dec) DecRes {
	if !GoodDec(a) || !GoodDec(b) {
		return DecRes{}
	}
	return put(a.Neg != b.Neg, product(uint64(a.Digits), uint64(b.Digits)), a.Exp+b.Exp, false)
}

// DecDiv puts a / b; there is none by 0.
func DecDiv(a Dec, b Dec) DecRes {
	if !GoodDec(a) || !GoodDec(b) || b == (Dec{}) {
		return DecRes{}
	}
	up := wideDigits - sizeOf(a).length()
	q, rest := sizeOf(a).raised(up).over(uint64(b.Digits))
	return put(a.Neg != b.Neg, q, a.Exp-up-b.Exp, rest != 0)
}

// DecCmp tells the order of a and b: -1, 0 or 1; -2 where one is not good.
func DecCmp(a Dec, b Dec) int {
	switch {
	case !GoodDec(a) || !GoodDec(b):
		return -2
	case a == b:
		return 0
	case a.Neg != b.Neg && a.Neg:
		return -1
	case a.Neg != b.Neg:
		return 1
	case a.Neg:
		return compareSizes(b, a)
	}
	return compareSizes(a, b)
}

// compareSizes leaves the signs out. Nothing is taken off anything here: a
// difference could be put as 0 where there is one.
func compareSizes(a Dec, b Dec) int {
	if a.Digits == 0 || b.Digits == 0 {
		return cmp.Compare(a.Digits, b.Digits)
	}
	long, other := sizeOf(a).length(), sizeOf(b).length()
	if first := cmp.Compare(a.Exp+long, b.Exp+other); first != 0 {
		return first
	}
	return cmp.Compare(sizeOf(a).raised(MaxDigits-long).lo, sizeOf(b).raised(MaxDigits-other).lo)
}

// DecPow puts each step of raising a to the power n.
func DecPow(a Dec, n int) DecRes {
	if !GoodDec(a) || !within(n, maxPower) {
		return DecRes{}
	}
	one := Dec{Digits: 1}
	out := DecRes{Ok: true, Dec: one}
	size := uint(max(n, -n))
	for at := bits.Len(size) - 1; at >= 0 && out.Ok; at-- {
		out = DecMul(out.Dec, out.Dec)
		if out.Ok && size>>at&1 == 1 {
			out = DecMul(out.Dec, a)
		}
	}
	if out.Ok && n < 0 {
		return DecDiv(one, out.Dec)
	}
	return out
}

// DecSqrt puts the root of a; there is none below 0.
func DecSqrt(a Dec) DecRes {
	if !GoodDec(a) || a.Neg {
		return DecRes{}
	}
	up := wideDigits - sizeOf(a).length()
	if (a.Exp-up)%2 != 0 {
		up--
	}
	w := sizeOf(a).raised(up)
	root := rootOf(w)
	return put(false, wide{0, root}, (a.Exp-up)/2, product(root, root) != w)
}

// DecRound puts the multiple of 10^-places that the mode takes for a.
func DecRound(a Dec, places int, mode int) DecRes {
	by, known := roundingOf(mode)
	if !known || !GoodDec(a) || !within(places, maxPlaces) {
		return DecRes{}
	}
	cut := -places - a.Exp
	if cut <= 0 {
		return DecRes{Ok: true, Dec: a}
	}
	return put(a.Neg, sizeOf(a).shortened(cut, false, by), -places, false)
}

// DecInt is the int that a is; false where it is none.
func DecInt(a Dec) (int, bool) {
	if !GoodDec(a) || a.Exp < 0 || a.Exp > maxTens {
		return 0, false
	}
	size := product(uint64(a.Digits), tens[a.Exp])
	// the least int has nineteen digits that count, so no decimal is it
	if size.hi != 0 || size.lo > math.MaxInt64 {
		return 0, false
	}
	if a.Neg {
		return -int(size.lo), true
	}
	return int(size.lo), true
}

// DecText shows a; the empty text where it is not good.
func DecText(a Dec) string {
	if !GoodDec(a) {
		return ""
	}
	text := sizeText(strconv.Itoa(a.Digits), a.Exp)
	if a.Neg {
		return "-" + text
	}
	return text
}

func sizeText(digits string, exp int) string {
	first := len(digits) - 1 + exp
	switch {
	case exp >= 0 && first < MaxDigits:
		return digits + strings.Repeat("0", exp)
	case exp < 0 && first >= minPointed:
		return pointedText(digits, len(digits)+exp)
	}
	return poweredText(digits, first)
}

// pointedText has the point behind so many digits, ahead of them where it is
// not above 0.
func pointedText(digits string, whole int) string {
	if whole <= 0 {
		return "0." + strings.Repeat("0", -whole) + digits
	}
	return digits[:whole] + "." + digits[whole:]
}

func poweredText(digits string, first int) string {
	text := digits[:1]
	if len(digits) > 1 {
		text += "." + digits[1:]
	}
	if first >= 0 {
		return text + "E+" + strconv.Itoa(first)
	}
	return text + "E" + strconv.Itoa(first)
}

// ReadDec puts the number that the text says.
func ReadDec(text string) DecRes {
	if len(text) > maxDecText {
		return DecRes{}
	}
	text, neg := strings.CutPrefix(text, "-")
	whole, text := leadingDigits(text)
	text, pointed := strings.CutPrefix(text, ".")
	part := ""
	if pointed {
		part, text = leadingDigits(text)
	}
	exp, ok := readExp(text)
	if !ok || whole == "" || pointed && part == "" {
		return DecRes{}
	}
	w, left, more := gathered(whole + part)
	return put(neg, w, exp-len(part)+left, more)
}

// leadingDigits are the digits that the text begins with, and what is behind them.
func leadingDigits(text string) (string, string) {
	n := 0
	for n < len(text) && '0' <= text[n] && text[n] <= '9' {
		n++
	}
	return text[:n], text[n:]
}

// readExp reads what stands behind the digits: nothing, or a power of ten.
func readExp(text string) (int, bool) {
	if text == "" {
		return 0, true
	}
	if text[0] != 'E' && text[0] != 'e' {
		return 0, false
	}
	text, below := strings.CutPrefix(text[1:], "-")
	if !below {
		text = strings.TrimPrefix(text, "+")
	}
	digits, behind := leadingDigits(text)
	if digits == "" || len(digits) > maxExpText || behind != "" {
		return 0, false
	}
	w, _, _ := gathered(digits)
	if below {
		return -int(w.lo), true
	}
	return int(w.lo), true
}

// gathered reads as many digits as fit; left is how many there are behind
// these, and more whether one of them is not 0.
func gathered(digits string) (w wide, left int, more bool) {
	digits = strings.TrimLeft(digits, "0")
	fit := min(len(digits), wideDigits)
	for _, d := range []byte(digits[:fit]) {
		w = w.times(10).plus(wide{0, uint64(d - '0')})
	}
	behind := digits[fit:]
	return w, len(behind), strings.Trim(behind, "0") != ""
}
