package tests

import (
	"math"
	"strings"
	"testing"

	"loop.example/g00025/impl"
)

func decOf(t *testing.T, text string) impl.Dec {
	t.Helper()
	r := impl.ReadDec(text)
	if !r.Ok {
		t.Fatalf("%q is not read", text)
	}
	return r.Dec
}

// shown is a result as a text: none where it is not Ok.
func shown(r impl.DecRes) string {
	if !r.Ok {
		if r.Dec != (impl.Dec{}) {
			return "none, but with a number"
		}
		return "none"
	}
	return impl.DecText(r.Dec)
}

// badDecs: each breaks one rule of the good ones.
func badDecs() []impl.Dec {
	return []impl.Dec{
		{Neg: true},
		{Exp: 1},
		{Exp: -1},
		{Neg: true, Exp: 5},
		{Digits: 10},
		{Digits: 100, Exp: -2},
		{Digits: -1},
		{Digits: -5, Neg: true},
		{Digits: 1000000000000000},
		{Digits: 1000000000000001},
		{Digits: math.MaxInt},
		{Digits: math.MinInt},
		{Digits: math.MinInt + 1},
		{Digits: 1, Exp: 301},
		{Digits: 1, Exp: -301},
		{Digits: 1, Exp: math.MaxInt},
		{Digits: 1, Exp: math.MinInt},
		{Neg: true, Digits: math.MaxInt, Exp: math.MinInt},
	}
}

func TestGoodDec(t *testing.T) {
	good := []impl.Dec{
		{},
		{Digits: 1},
		{Neg: true, Digits: 1},
		{Digits: 999999999999999},
		{Digits: 100000000000001},
		{Digits: 1, Exp: 300},
		{Digits: 1, Exp: -300},
		{Neg: true, Digits: 999999999999999, Exp: 300},
		{Neg: true, Digits: 999999999999999, Exp: -300},
	}
	for _, a := range good {
		if !impl.GoodDec(a) {
			t.Errorf("%v is good", a)
		}
	}
	for _, a := range badDecs() {
		if impl.GoodDec(a) {
			t.Errorf("%v is not good", a)
		}
	}
}

func TestDecOf(t *testing.T) {
	none := impl.DecRes{}
	nought := impl.DecRes{Ok: true}
	is := func(neg bool, digits int, exp int) impl.DecRes {
		return impl.DecRes{Ok: true, Dec: impl.Dec{Neg: neg, Digits: digits, Exp: exp}}
	}
	for _, c := range []struct {
		digits int
		exp    int
		want   impl.DecRes
	}{
		{0, 0, nought},
		{0, 1000, nought},
		{0, -1000, nought},
		{0, 1001, none},
		{0, -1001, none},
		{1, 0, is(false, 1, 0)},
		{-120, 0, is(true, 12, 1)},
		{math.MaxInt, 0, is(false, 922337203685478, 4)},
		{math.MinInt, 0, is(true, 922337203685478, 4)},
		{math.MaxInt, 296, is(false, 922337203685478, 300)},
		{math.MaxInt, 297, none},
		{math.MinInt, -304, is(true, 922337203685478, -300)},
		{math.MinInt, -305, nought},
		{1, 300, is(false, 1, 300)},
		{1, 301, none},
		{10, 300, none},
		{10, 299, is(false, 1, 300)},
		{-1, 301, none},
		{1, 1000, none},
		{1, 1001, none},
		{1, -300, is(false, 1, -300)},
		{1, -301, nought},
		{-1, -301, nought},
		{10, -301, is(false, 1, -300)},
		{12, -301, nought},
		{123456789012345, -301, nought},
		{1000000000000000000, -318, is(false, 1, -300)},
		{1000000000000000000, -1000, nought},
		{1, -1000, nought},
		{1, -1001, none},
		{1, math.MaxInt, none},
		{1, math.MinInt, none},
		{999999999999999, 0, is(false, 999999999999999, 0)},
		{999999999999999, 300, is(false, 999999999999999, 300)},
		{1000000000000000, 0, is(false, 1, 15)},
		// ties, and what is next to them
		{1000000000000005, 0, is(false, 1, 15)},
		{1000000000000015, 0, is(false, 100000000000002, 1)},
		{1000000000000025, 0, is(false, 100000000000002, 1)},
		{-1000000000000035, 0, is(true, 100000000000004, 1)},
		{10000000000000049, 0, is(false, 1, 16)},
		{10000000000000050, 0, is(false, 1, 16)},
		{10000000000000051, 0, is(false, 100000000000001, 2)},
		{10000000000000149, 0, is(false, 100000000000001, 2)},
		{10000000000000150, 0, is(false, 100000000000002, 2)},
		{10000000000000151, 0, is(false, 100000000000002, 2)},
		// rounded up into one more digit
		{9999999999999994, 0, is(false, 999999999999999, 1)},
		{9999999999999995, 0, is(false, 1, 16)},
		{-9999999999999996, 285, none},
		{-9999999999999996, 284, is(true, 1, 300)},
		{9999999999999996, -316, is(false, 1, -300)},
		{9999999999999996, -317, nought},
	} {
		if got := impl.DecOf(c.digits, c.exp); got != c.want {
			t.Errorf("DecOf(%d, %d): %v, want %v", c.digits, c.exp, got, c.want)
		}
	}
}

func TestFourKinds(t *testing.T) {
	for _, c := range []struct{ a, op, b, want string }{
		{"0.1", "+", "0.2", "0.3"},
		{"0", "+", "0", "0"},
		{"0", "+", "1E-300", "1E-300"},
		{"-1E-300", "+", "0", "-1E-300"},
		{"0", "-", "1E300", "-1E+300"},
		{"5", "-", "5", "0"},
		{"-5", "+", "5", "0"},
		{"1E-300", "-", "2E-300", "-1E-300"},
		{"100000000000001", "+", "0.5", "100000000000002"},
		{"100000000000002", "+", "0.5", "100000000000002"},
		{"100000000000002", "+", "0.500000000000001", "100000000000003"},
		{"100000000000002", "+", "0.499999999999999", "100000000000002"},
		{"100000000000003", "-", "0.5", "100000000000002"},
		{"100000000000002", "-", "0.5", "100000000000002"},
		{"100000000000002", "-", "0.500000000000001", "100000000000001"},
		{"1E15", "-", "0.5", "1E+15"},
		{"1E15", "-", "0.500000000000001", "999999999999999"},
		{"1E15", "-", "1", "999999999999999"},
		{"999999999999999", "+", "0.5", "1E+15"},
		{"1E30", "+", "500000000000000", "1E+30"},
		{"1E29", "+", "500000000000001", "1.00000000000001E+29"},
		{"1E300", "+", "1E-300", "1E+300"},
		{"1E300", "-", "1E-300", "1E+300"},
		{"1E-300", "-", "1E300", "-1E+300"},
		{"9E300", "+", "1E300", "none"},
		{"5E300", "+", "7E300", "1.2E+301"},
		{"-9E300", "-", "1E300", "none"},
		{"9.99999999999998E314", "+", "1E300", "9.99999999999999E+314"},
		{"9.99999999999999E314", "+", "1E300", "none"},
		{"2", "*", "-3", "-6"},
		{"0", "*", "-3", "0"},
		{"999999999999999", "*", "999999999999999", "9.99999999999998E+29"},
		{"100000000000001", "*", "1.5", "150000000000002"},
		{"100000000000003", "*", "1.5", "150000000000004"},
		{"100000000000005", "*", "0.5", "50000000000002.5"},
		{"1E150", "*", "1E150", "1E+300"},
		{"1E150", "*", "1E151", "none"},
		{"-1E150", "*", "1E151", "none"},
		{"5E150", "*", "2E150", "none"},
		{"5E150", "*", "2E149", "1E+300"},
		{"1E-150", "*", "1E-150", "1E-300"},
		{"1E-150", "*", "1E-151", "0"},
		{"-1E-150", "*", "1E-151", "0"},
		{"5E-150", "*", "2E-151", "1E-300"},
		{"1.5E-149", "*", "1E-151", "0"},
		{"1", "/", "3", "0.333333333333333"},
		{"-2", "/", "3", "-0.666666666666667"},
		{"1", "/", "0", "none"},
		{"0", "/", "0", "none"},
		{"0", "/", "-3", "0"},
		{"1", "/", "8", "0.125"},
		{"1", "/", "999999999999999", "1E-15"},
		{"200000000000001", "/", "2", "100000000000000"},
		{"999999999999999", "/", "2", "500000000000000"},
		{"1E300", "/", "1E-1", "none"},
		{"1E300", "/", "0.5", "2E+300"},
		{"1E-300", "/", "10", "0"},
		{"1E-300", "/", "3", "0"},
		{"-1E-300", "/", "2", "0"},
		{"3E-300", "/", "3", "1E-300"},
	} {
		a, b := decOf(t, c.a), decOf(t, c.b)
		var got impl.DecRes
		switch c.op {
		case "+":
			got = impl.DecAdd(a, b)
		case "-":
			got = impl.DecSub(a, b)
		case "*":
			got = impl.DecMul(a, b)
		case "/":
			got = impl.DecDiv(a, b)
		}
		if s := shown(got); s != c.want {
			t.Errorf("%s %s %s: %s, want %s", c.a, c.op, c.b, s, c.want)
		}
	}
}

func TestDecCmp(t *testing.T) {
	// each is less than the next
	order := []string{"-9.99999999999999E314", "-1E300", "-12", "-1.5", "-1", "-1E-300", "0", "1E-300", "2E-300",
		"1.00000000000001E-286", "1", "1.00000000000001", "1.5", "9", "11", "12", "100", "123456789012345", "1E15", "1E300", "9.99999999999999E314"}
	for i := range order {
		for j := range order {
			want := 0
			if i < j {
				want = -1
			} else if i > j {
				want = 1
			}
			if got := impl.DecCmp(decOf(t, order[i]), decOf(t, order[j])); got != want {
				t.Errorf("%s ? %s: %d, want %d", order[i], order[j], got, want)
			}
		}
	}
}

func TestDecPow(t *testing.T) {
	for _, c := range []struct {
		a    string
		n    int
		want string
	}{
		{"2", 0, "1"},
		{"0", 0, "1"},
		{"0", 1, "0"},
		{"0", 1000, "0"},
		{"0", -1, "none"},
		{"2", 1, "2"},
		{"2", 10, "1024"},
		{"-2", 3, "-8"},
		{"-2", -3, "-0.125"},
		{"2", -2, "0.25"},
		{"1", 1000, "1"},
		{"-1", -999, "-1"},
		{"1", 1001, "none"},
		{"1", -1001, "none"},
		{"1", math.MaxInt, "none"},
		{"1", math.MinInt, "none"},
		{"0", 1001, "none"},
		{"10", 300, "1E+300"},
		{"10", 301, "none"},
		{"10", -300, "1E-300"},
		{"10", -301, "none"},
		{"0.1", 300, "1E-300"},
		{"0.1", 301, "0"},
		{"0.1", 1000, "0"},
		{"0.1", -300, "1E+300"},
		{"0.1", -301, "none"},
		{"1E200", 2, "none"},
		{"1E200", -2, "none"},
		{"1E-200", 2, "0"},
		{"1E-200", -2, "none"},
		// each step is put, the highest binary digit first: other ways come to other last digits
		{"3", 68, "2.78128389443695E+32"},
		{"1.1", 57, "228.761562390246"},
		{"7", -57, "6.75167795930336E-49"},
	} {
		if s := shown(impl.DecPow(decOf(t, c.a), c.n)); s != c.want {
			t.Errorf("%s ^ %d: %s, want %s", c.a, c.n, s, c.want)
		}
	}
}

func TestDecSqrt(t *testing.T) {
	for _, c := range [][2]string{
		{"0", "0"},
		{"1", "1"},
		{"2", "1.4142135623731"},
		{"3", "1.73205080756888"},
		{"10", "3.16227766016838"},
		{"0.09", "0.3"},
		{"0.9", "0.948683298050514"},
		{"144", "12"},
		{"1E300", "1E+150"},
		{"1E299", "3.16227766016838E+149"},
		{"1E-300", "1E-150"},
		{"1E-299", "3.16227766016838E-150"},
		{"9.99999999999999E314", "3.16227766016838E+157"},
		{"999999999999999", "31622776.6016838"},
		{"999999999999998E15", "999999999999999"},
		{"99999999999999.8", "9999999.99999999"},
		{"-1", "none"},
		{"-1E-300", "none"},
	} {
		if s := shown(impl.DecSqrt(decOf(t, c[0]))); s != c[1] {
			t.Errorf("root of %s: %s, want %s", c[0], s, c[1])
		}
	}
}

func TestDecRound(t *testing.T) {
	for _, c := range []struct {
		a      string
		places int
		want   [4]string // even, away, down, up
	}{
		{"2.5", 0, [4]string{"2", "3", "2", "3"}},
		{"3.5", 0, [4]string{"4", "4", "3", "4"}},
		{"-2.5", 0, [4]string{"-2", "-3", "-2", "-3"}},
		{"-3.5", 0, [4]string{"-4", "-4", "-3", "-4"}},
		{"2.4", 0, [4]string{"2", "2", "2", "3"}},
		{"-2.4", 0, [4]string{"-2", "-2", "-2", "-3"}},
		{"2.6", 0, [4]string{"3", "3", "2", "3"}},
		{"-2.6", 0, [4]string{"-3", "-3", "-2", "-3"}},
		{"2.51", 0, [4]string{"3", "3", "2", "3"}},
		{"2.49", 0, [4]string{"2", "2", "2", "3"}},
		{"0.5", 0, [4]string{"0", "1", "0", "1"}},
		{"-0.5", 0, [4]string{"0", "-1", "0", "-1"}},
		{"-0.4", 0, [4]string{"0", "0", "0", "-1"}},
		{"1.5", 0, [4]string{"2", "2", "1", "2"}},
		{"0", 0, [4]string{"0", "0", "0", "0"}},
		{"0", 300, [4]string{"0", "0", "0", "0"}},
		{"0", -300, [4]string{"0", "0", "0", "0"}},
		{"7", 0, [4]string{"7", "7", "7", "7"}},
		{"7", 5, [4]string{"7", "7", "7", "7"}},
		{"-7", 300, [4]string{"-7", "-7", "-7", "-7"}},
		{"1249", -2, [4]string{"1200", "1200", "1200", "1300"}},
		{"1250", -2, [4]string{"1200", "1300", "1200", "1300"}},
		{"1350", -2, [4]string{"1400", "1400", "1300", "1400"}},
		{"1.005", 2, [4]string{"1", "1.01", "1", "1.01"}},
		{"1.015", 2, [4]string{"1.02", "1.02", "1.01", "1.02"}},
		{"0.00001", 2, [4]string{"0", "0", "0", "0.01"}},
		{"999.5", 0, [4]string{"1000", "1000", "999", "1000"}},
		{"99999999999999.9", 0, [4]string{"100000000000000", "100000000000000", "99999999999999", "100000000000000"}},
		{"999999999999999", -15, [4]string{"1E+15", "1E+15", "0", "1E+15"}},
		{"500000000000001", -15, [4]string{"1E+15", "1E+15", "0", "1E+15"}},
		{"5E14", -15, [4]string{"0", "1E+15", "0", "1E+15"}},
		{"499999999999999", -15, [4]string{"0", "0", "0", "1E+15"}},
		{"999999999999999", -16, [4]string{"0", "0", "0", "1E+16"}},
		{"1E-300", -300, [4]string{"0", "0", "0", "1E+300"}},
		{"-1E-300", -300, [4]string{"0", "0", "0", "-1E+300"}},
		{"1E-300", 300, [4]string{"1E-300", "1E-300", "1E-300", "1E-300"}},
		{"1.5E-299", 299, [4]string{"2E-299", "2E-299", "1E-299", "2E-299"}},
		{"9.5E300", -300, [4]string{"none", "none", "9E+300", "none"}},
		{"-9.4E300", -300, [4]string{"-9E+300", "-9E+300", "-9E+300", "none"}},
		{"9.99999999999999E314", -300, [4]string{"9.99999999999999E+314", "9.99999999999999E+314", "9.99999999999999E+314", "9.99999999999999E+314"}},
		{"1", 301, [4]string{"none", "none", "none", "none"}},
		{"1", -301, [4]string{"none", "none", "none", "none"}},
		{"0", 301, [4]string{"none", "none", "none", "none"}},
		{"1", math.MaxInt, [4]string{"none", "none", "none", "none"}},
		{"1", math.MinInt, [4]string{"none", "none", "none", "none"}},
	} {
		for mode, want := range c.want {
			if s := shown(impl.DecRound(decOf(t, c.a), c.places, mode)); s != want {
				t.Errorf("%s at %d by %d: %s, want %s", c.a, c.places, mode, s, want)
			}
		}
	}
	for _, mode := range []int{-1, 4, math.MaxInt, math.MinInt} {
		for _, a := range []string{"0", "2", "2.5"} {
			if r := impl.DecRound(decOf(t, a), 0, mode); r != (impl.DecRes{}) {
				t.Errorf("%s by mode %d: %v", a, mode, r)
			}
		}
	}
}

func TestDecInt(t *testing.T) {
	for _, c := range []struct {
		a    string
		want int
		ok   bool
	}{
		{"0", 0, true},
		{"1", 1, true},
		{"-1", -1, true},
		{"-120", -120, true},
		{"999999999999999", 999999999999999, true},
		{"1E18", 1000000000000000000, true},
		{"9E18", 9000000000000000000, true},
		{"-9E18", -9000000000000000000, true},
		{"9223372036854770000", 9223372036854770000, true},
		{"-9223372036854770000", -9223372036854770000, true},
		{"9223372036854780000", 0, false},
		{"-9223372036854780000", 0, false},
		{"1E19", 0, false},
		{"-1E19", 0, false},
		{"2E19", 0, false},
		{"1E20", 0, false},
		{"999999999999999E19", 0, false},
		{"1E300", 0, false},
		{"-9.99999999999999E314", 0, false},
		{"0.5", 0, false},
		{"-1.5", 0, false},
		{"1E-300", 0, false},
	} {
		if n, ok := impl.DecInt(decOf(t, c.a)); n != c.want || ok != c.ok {
			t.Errorf("%s: %d %v, want %d %v", c.a, n, ok, c.want, c.ok)
		}
	}
}

func TestDecText(t *testing.T) {
	for _, c := range []struct {
		a    impl.Dec
		want string
	}{
		{impl.Dec{}, "0"},
		{impl.Dec{Digits: 7}, "7"},
		{impl.Dec{Neg: true, Digits: 7, Exp: 2}, "-700"},
		{impl.Dec{Digits: 999999999999999}, "999999999999999"},
		{impl.Dec{Digits: 1, Exp: 14}, "100000000000000"},
		{impl.Dec{Digits: 12, Exp: 13}, "120000000000000"},
		{impl.Dec{Digits: 1, Exp: 15}, "1E+15"},
		{impl.Dec{Neg: true, Digits: 12, Exp: 14}, "-1.2E+15"},
		{impl.Dec{Digits: 15, Exp: 19}, "1.5E+20"},
		{impl.Dec{Digits: 999999999999999, Exp: 1}, "9.99999999999999E+15"},
		{impl.Dec{Digits: 999999999999999, Exp: 300}, "9.99999999999999E+314"},
		{impl.Dec{Digits: 5, Exp: -2}, "0.05"},
		{impl.Dec{Digits: 125, Exp: -1}, "12.5"},
		{impl.Dec{Neg: true, Digits: 125, Exp: -3}, "-0.125"},
		{impl.Dec{Digits: 125, Exp: -2}, "1.25"},
		{impl.Dec{Digits: 1, Exp: -5}, "0.00001"},
		{impl.Dec{Neg: true, Digits: 1, Exp: -5}, "-0.00001"},
		{impl.Dec{Digits: 15, Exp: -6}, "0.000015"},
		{impl.Dec{Digits: 999999999999999, Exp: -20}, "9.99999999999999E-6"},
		{impl.Dec{Digits: 100000000000001, Exp: -19}, "0.0000100000000000001"},
		{impl.Dec{Digits: 1, Exp: -6}, "1E-6"},
		{impl.Dec{Digits: 2, Exp: -7}, "2E-7"},
		{impl.Dec{Neg: true, Digits: 25, Exp: -7}, "-2.5E-6"},
		{impl.Dec{Digits: 123456789012345, Exp: -14}, "1.23456789012345"},
		{impl.Dec{Digits: 123456789012345, Exp: -15}, "0.123456789012345"},
		{impl.Dec{Digits: 1, Exp: -300}, "1E-300"},
		{impl.Dec{Digits: 1, Exp: 300}, "1E+300"},
	} {
		if s := impl.DecText(c.a); s != c.want {
			t.Errorf("%v: %q, want %q", c.a, s, c.want)
		}
	}
}

func TestReadDec(t *testing.T) {
	noughts := strings.Repeat("0", 200)
	for text, want := range map[string]string{
		"0":                 "0",
		"-0":                "0",
		"-0.00":             "0",
		"000":               "0",
		"0E9999":            "0",
		"-0.0e-9999":        "0",
		"007":               "7",
		"1.50":              "1.5",
		"-12.5e1":           "-125",
		"1E20":              "1E+20",
		"1e+0020":           "1E+20",
		"1E-0":              "1",
		"12E-7":             "1.2E-6",
		"1E300":             "1E+300",
		"1E301":             "none",
		"10E300":            "none",
		"0.1E301":           "1E+300",
		"1E9999":            "none",
		"-1E9999":           "none",
		"1E-300":            "1E-300",
		"1E-301":            "0",
		"-1E-9999":          "0",
		"10E-301":           "1E-300",
		"1.5E-300":          "0",
		"1000000000000005":  "1E+15",
		"1000000000000015":  "1.00000000000002E+15",
		"-1000000000000025": "-1.00000000000002E+15",
		"0.999999999999999": "0.999999999999999",
		// rounded once: not to more digits first
		"1.00000000000000500000000000000000000000000000000000000": "1",
		"1.00000000000000500000000000000000000000000000000000001": "1.00000000000001",
		"1.00000000000000499999999999999999999999999999999999999": "1",
		"9999999999999995": "1E+16",
		// at a hundred bytes, and beyond
		noughts[:99] + "7":             "7",
		noughts[:100] + "7":            "none",
		"0." + noughts[:97] + "7":      "7E-98",
		"0." + noughts[:98] + "7":      "none",
		"-" + noughts[:99]:             "0",
		"1" + noughts[:94] + "E-300":   "1E-206",
		"1" + noughts[:95] + "E+205":   "none",
		"1" + noughts[:94] + "E+206":   "1E+300",
		"1" + noughts[:94] + "E+207":   "none",
		"0." + noughts[:92] + "1E393":  "1E+300",
		"0." + noughts[:92] + "1E394":  "none",
		"0." + noughts[:92] + "1E-207": "1E-300",
		"0." + noughts[:91] + "1E-209": "0",
	} {
		if s := shown(impl.ReadDec(text)); s != want {
			t.Errorf("%q: %s, want %s", text, s, want)
		}
	}
	for _, text := range []string{"", "-", "--1", "+1", ".", ".5", "-.5", "1.", "-1.", "1.E5", "1..5", "1.5.", "1.2.3",
		"E5", "1E", "1e+", "1E-", "1E+-5", "1E--5", "1E 5", "1E5.0", "1E5E5", "1e12345", "1E00001", "1E-00000", " 1", "1 ", "1\n", "1,5",
		"0x1", "1_0", "1f", "1\x00", "inf", "NaN", "١", "1٠"} {
		if r := impl.ReadDec(text); r != (impl.DecRes{}) {
			t.Errorf("%q: %v", text, r)
		}
	}
}

// Each function at decimals that are not good: the zero answer, at every place.
func TestDecsThatAreNotGood(t *testing.T) {
	none := impl.DecRes{}
	one := impl.Dec{Digits: 1}
	for _, bad := range badDecs() {
		for _, other := range append(badDecs(), impl.Dec{}, one, impl.Dec{Neg: true, Digits: 5, Exp: -300}) {
			for _, pair := range [][2]impl.Dec{{bad, other}, {other, bad}} {
				a, b := pair[0], pair[1]
				if impl.DecAdd(a, b) != none || impl.DecSub(a, b) != none || impl.DecMul(a, b) != none || impl.DecDiv(a, b) != none {
					t.Errorf("%v and %v have an answer", a, b)
				}
				if c := impl.DecCmp(a, b); c != -2 {
					t.Errorf("%v ? %v: %d", a, b, c)
				}
			}
		}
		for _, n := range []int{math.MinInt, -1001, -1000, -1, 0, 1, 2, 300, 301, 1000, 1001, math.MaxInt} {
			if impl.DecPow(bad, n) != none {
				t.Errorf("%v ^ %d has an answer", bad, n)
			}
			for mode := -1; mode <= 4; mode++ {
				if impl.DecRound(bad, n, mode) != none {
					t.Errorf("%v at %d by %d has an answer", bad, n, mode)
				}
			}
		}
		if impl.DecSqrt(bad) != none {
			t.Errorf("%v has a root", bad)
		}
		if n, ok := impl.DecInt(bad); n != 0 || ok {
			t.Errorf("%v is the int %d", bad, n)
		}
		if s := impl.DecText(bad); s != "" {
			t.Errorf("%v is shown as %q", bad, s)
		}
	}
}
