package tests

import (
	"math/big"
	"math/rand"
	"regexp"
	"strings"
	"testing"

	"loop.example/g00025/impl"
)

// The second way to each answer: exact fractions, put by the words of the
// document. It shares nothing with the program.

func bigTen(n int) *big.Int {
	return new(big.Int).Exp(big.NewInt(10), big.NewInt(int64(n)), nil)
}

func ratTen(n int) *big.Rat {
	if n < 0 {
		return new(big.Rat).SetFrac(big.NewInt(1), bigTen(-n))
	}
	return new(big.Rat).SetInt(bigTen(n))
}

func ratOf(d impl.Dec) *big.Rat {
	r := new(big.Rat).SetInt64(int64(d.Digits))
	if d.Neg {
		r.Neg(r)
	}
	return r.Mul(r, ratTen(d.Exp))
}

// scaleOf is the Exp at which the size of r has just fifteen digits ahead of the point.
func scaleOf(size *big.Rat) int {
	e := len(size.Num().String()) - len(size.Denom().String()) - impl.MaxDigits
	for size.Cmp(ratTen(e+impl.MaxDigits)) >= 0 {
		e++
	}
	for size.Cmp(ratTen(e+impl.MaxDigits-1)) < 0 {
		e--
	}
	return e
}

// wholeBy is the whole number that size comes to by the mode.
func wholeBy(size *big.Rat, mode int) *big.Int {
	q, rest := new(big.Int).QuoRem(size.Num(), size.Denom(), new(big.Int))
	half := rest.Lsh(rest, 1).Cmp(size.Denom())
	on := false
	switch mode {
	case impl.RoundEven:
		on = half > 0 || half == 0 && q.Bit(0) == 1
	case impl.RoundAway:
		on = half >= 0
	case impl.RoundUp:
		on = rest.Sign() != 0
	}
	if on {
		q.Add(q, big.NewInt(1))
	}
	return q
}

func wantPut(r *big.Rat) impl.DecRes {
	if r.Sign() == 0 {
		return impl.DecRes{Ok: true}
	}
	size := new(big.Rat).Abs(r)
	e := scaleOf(size)
	digits := wholeBy(new(big.Rat).Mul(size, ratTen(-e)), impl.RoundEven).Int64()
	for digits%10 == 0 {
		digits, e = digits/10, e+1
	}
	switch {
	case e > impl.MaxExp:
		return impl.DecRes{}
	case e < -impl.MaxExp:
		return impl.DecRes{Ok: true}
	}
	return impl.DecRes{Ok: true, Dec: impl.Dec{Neg: r.Sign() < 0, Digits: int(digits), Exp: e}}
}

// wantRoot takes the root to some hundred digits; a last 1 stands for all that is behind them.
func wantRoot(a impl.Dec) impl.DecRes {
	const far = 400
	square := new(big.Rat).Mul(ratOf(a), ratTen(2*far)).Num()
	root := new(big.Int).Sqrt(square)
	exact := new(big.Int).Mul(root, root).Cmp(square) == 0
	root.Mul(root, big.NewInt(10))
	if !exact {
		root.Add(root, big.NewInt(1))
	}
	return wantPut(new(big.Rat).Mul(new(big.Rat).SetInt(root), ratTen(-far-1)))
}

func wantMul(a, b impl.Dec) impl.DecRes {
	return wantPut(new(big.Rat).Mul(ratOf(a), ratOf(b)))
}

func wantDiv(a, b impl.Dec) impl.DecRes {
	if b.Digits == 0 {
		return impl.DecRes{}
	}
	return wantPut(new(big.Rat).Quo(ratOf(a), ratOf(b)))
}

func wantPow(a impl.Dec, n int) impl.DecRes {
	out := impl.Dec{Digits: 1}
	size := big.NewInt(int64(max(n, -n)))
	for i := size.BitLen() - 1; i >= 0; i-- {
		step := wantMul(out, out)
		if step.Ok && size.Bit(i) == 1 {
			step = wantMul(step.Dec, a)
		}
		if !step.Ok {
			return impl.DecRes{}
		}
		out = step.Dec
	}
	if n < 0 {
		return wantDiv(impl.Dec{Digits: 1}, out)
	}
	return impl.DecRes{Ok: true, Dec: out}
}

func wantRound(a impl.Dec, places int, mode int) impl.DecRes {
	size := new(big.Rat).Abs(ratOf(a))
	whole := new(big.Rat).SetInt(wholeBy(size.Mul(size, ratTen(places)), mode))
	if a.Neg {
		whole.Neg(whole)
	}
	return wantPut(whole.Mul(whole, ratTen(-places)))
}

var decForm = regexp.MustCompile(`^-?[0-9]+(\.[0-9]+)?([Ee][+-]?[0-9]{1,4})?$`)

func wantRead(text string) impl.DecRes {
	if len(text) > 100 || !decForm.MatchString(text) {
		return impl.DecRes{}
	}
	mantissa, exp, _ := strings.Cut(strings.ToUpper(text), "E")
	whole, part, _ := strings.Cut(mantissa, ".")
	digits, _ := new(big.Int).SetString(whole+part, 10)
	power := new(big.Int)
	if exp != "" {
		power.SetString(exp, 10)
	}
	r := new(big.Rat).SetInt(digits)
	return wantPut(r.Mul(r, ratTen(int(power.Int64())-len(part))))
}

// edgeDecs are good decimals at and near all bounds, both signs of each.
func edgeDecs() []impl.Dec {
	list := []impl.Dec{{}}
	digits := []int{1, 2, 3, 5, 7, 9, 15, 25, 99, 101, 31622776601683, 100000000000001, 100000000000003,
		123456789012345, 499999999999999, 500000000000001, 999999999999998, 999999999999999}
	exps := []int{-300, -299, -286, -285, -151, -150, -149, -38, -24, -23, -22, -20, -19, -16, -15, -14, -5, -1,
		0, 1, 2, 4, 14, 15, 16, 18, 23, 24, 25, 143, 149, 150, 151, 285, 286, 299, 300}
	for _, d := range digits {
		for _, e := range exps {
			list = append(list, impl.Dec{Digits: d, Exp: e}, impl.Dec{Neg: true, Digits: d, Exp: e})
		}
	}
	return list
}

func randomDec(r *rand.Rand, spread int) impl.Dec {
	digits := r.Intn(int(bigTen(1 + r.Intn(15)).Int64()))
	if digits == 0 {
		return impl.Dec{}
	}
	for digits%10 == 0 {
		digits /= 10
	}
	return impl.Dec{Neg: r.Intn(2) == 0, Digits: digits, Exp: r.Intn(2*spread+1) - spread}
}

// pairs hands on all edges with each other, and many pairs besides.
func pairs(each func(a, b impl.Dec)) {
	edges := edgeDecs()
	for i, a := range edges {
		for j, b := range edges {
			if (i*7+j)%41 == 0 {
				each(a, b)
			}
		}
	}
	r := rand.New(rand.NewSource(1))
	for i := range 10000 {
		each(randomDec(r, 1+i%300), randomDec(r, 1+i%300))
		each(randomDec(r, 20), randomDec(r, 20))
	}
}

func TestFourKindsAreExact(t *testing.T) {
	pairs(func(a, b impl.Dec) {
		x, y := ratOf(a), ratOf(b)
		if got, want := impl.DecAdd(a, b), wantPut(new(big.Rat).Add(x, y)); got != want {
			t.Errorf("%v + %v: %v, want %v", a, b, got, want)
		}
		if got, want := impl.DecSub(a, b), wantPut(new(big.Rat).Sub(x, y)); got != want {
			t.Errorf("%v - %v: %v, want %v", a, b, got, want)
		}
		if got, want := impl.DecMul(a, b), wantMul(a, b); got != want {
			t.Errorf("%v * %v: %v, want %v", a, b, got, want)
		}
		if got, want := impl.DecDiv(a, b), wantDiv(a, b); got != want {
			t.Errorf("%v / %v: %v, want %v", a, b, got, want)
		}
		if got, want := impl.DecCmp(a, b), x.Cmp(y); got != want {
			t.Errorf("%v ? %v: %v, want %v", a, b, got, want)
		}
	})
}

func TestDecOfIsExact(t *testing.T) {
	r := rand.New(rand.NewSource(2))
	for range 20000 {
		digits, exp := int(r.Uint64())>>r.Intn(64), r.Intn(2001)-1000
		if r.Intn(2) == 0 {
			exp = r.Intn(641) - 320
		}
		want := wantPut(new(big.Rat).Mul(new(big.Rat).SetInt64(int64(digits)), ratTen(exp)))
		if got := impl.DecOf(digits, exp); got != want {
			t.Errorf("%d * 10^%d: %v, want %v", digits, exp, got, want)
		}
	}
}

func TestRootsAreExact(t *testing.T) {
	check := func(a impl.Dec) {
		a.Neg = false
		if got, want := impl.DecSqrt(a), wantRoot(a); got != want {
			t.Errorf("root of %v: %v, want %v", a, got, want)
		}
	}
	for _, a := range edgeDecs() {
		check(a)
	}
	r := rand.New(rand.NewSource(3))
	for i := range 5000 {
		check(randomDec(r, 1+i%300))
		// squares, and what is just beside them: roots that are nearly ties
		root := 1 + r.Intn(31622776)
		for _, square := range []int{root*root - 1, root * root, root*root + 1} {
			check(impl.DecOf(square, r.Intn(41)-20).Dec)
		}
	}
}

func TestPowersAreExact(t *testing.T) {
	bases := []string{"0", "1", "-1", "2", "-2", "3", "10", "0.1", "1.5", "-1.5", "0.5", "7", "99", "1.00000000000001",
		"0.999999999999999", "-0.999999999999999", "1E300", "1E-300", "1E150", "1E151", "1E-151", "123456789012345", "2E-1"}
	for _, text := range bases {
		a := decOf(t, text)
		for n := -1000; n <= 1000; n++ {
			if n < -70 && n > -990 && n%13 != 0 || n > 70 && n < 990 && n%13 != 0 {
				continue
			}
			if got, want := impl.DecPow(a, n), wantPow(a, n); got != want {
				t.Errorf("%s ^ %d: %v, want %v", text, n, got, want)
			}
		}
	}
}

func TestRoundingIsExact(t *testing.T) {
	check := func(a impl.Dec, places int) {
		for mode := impl.RoundEven; mode <= impl.RoundUp; mode++ {
			if got, want := impl.DecRound(a, places, mode), wantRound(a, places, mode); got != want {
				t.Errorf("%v at %d by %d: %v, want %v", a, places, mode, got, want)
			}
		}
	}
	for _, a := range edgeDecs() {
		for _, places := range []int{-300, -299, -16, -15, -14, -1, 0, 1, 14, 15, 299, 300} {
			check(a, places)
		}
		for cut := -1; cut <= 18; cut++ {
			if places := -a.Exp - cut; -300 <= places && places <= 300 {
				check(a, places)
			}
		}
	}
	r := rand.New(rand.NewSource(4))
	for range 3000 {
		check(randomDec(r, 20), r.Intn(41)-20)
	}
}

func TestTextsComeBack(t *testing.T) {
	check := func(a impl.Dec) {
		text := impl.DecText(a)
		if got := impl.ReadDec(text); !got.Ok || got.Dec != a {
			t.Errorf("%v: %q: %v", a, text, got)
		}
	}
	for _, a := range edgeDecs() {
		check(a)
	}
	r := rand.New(rand.NewSource(5))
	for i := range 20000 {
		check(randomDec(r, 1+i%300))
	}
}

func TestReadingIsExact(t *testing.T) {
	check := func(text string) {
		if got, want := impl.ReadDec(text), wantRead(text); got != want {
			t.Errorf("%q: %v, want %v", text, got, want)
		}
	}
	r := rand.New(rand.NewSource(6))
	digits := func(most int, from string) string {
		out := make([]byte, 1+r.Intn(most))
		for i := range out {
			out[i] = from[r.Intn(len(from))]
		}
		return string(out)
	}
	kinds := []string{"0123456789", "0", "09", "0000001", "9", "05"}
	for range 20000 {
		text := []string{"", "-"}[r.Intn(2)] + digits(45, kinds[r.Intn(len(kinds))])
		if r.Intn(2) == 0 {
			text += "." + digits(45, kinds[r.Intn(len(kinds))])
		}
		if r.Intn(2) == 0 {
			text += []string{"E", "e", "E+", "e-", "E-"}[r.Intn(5)] + digits(4, kinds[r.Intn(len(kinds))])
		}
		check(text)
		// one byte of it changed, put in or left out
		at := r.Intn(len(text))
		check(text[:at] + digits(1, "0123456789-+.eE xX,_\x00\n") + text[at+1:])
		check(text[:at] + digits(1, "0123456789-+.eE xX,_\x00\n") + text[at:])
		check(text[:at] + text[at+1:])
		check(digits(6, "019.-+eE"))
	}
}
