package tests

import (
	"math"
	"math/big"
	"math/rand"
	"slices"
	"strings"
	"testing"

	"loop.example/g00810/impl"
)

// integerOf returns the number that x stands for.
func integerOf(x impl.BigInt) *big.Int {
	n := valueOf(x.Mag)
	if x.Neg {
		n.Neg(n)
	}
	return n
}

// bigIntOf returns n as a BigInt, or the zero value if n needs more than MaxLimbs limbs.
func bigIntOf(n *big.Int) impl.BigInt {
	row := limbsOf(new(big.Int).Abs(n))
	return impl.BigInt{Neg: n.Sign() < 0 && len(row) > 0, Mag: row}
}

func sameBigInt(x, y impl.BigInt) bool { return x.Neg == y.Neg && slices.Equal(x.Mag, y.Mag) }

func isZeroBigInt(x impl.BigInt) bool { return !x.Neg && len(x.Mag) == 0 }

// sampleBigInts returns the samples of natural numbers with both signs.
func sampleBigInts() []impl.BigInt {
	var l []impl.BigInt
	for _, row := range sampleNats() {
		l = append(l, impl.BigInt{Mag: row})
		if len(row) > 0 {
			l = append(l, impl.BigInt{Neg: true, Mag: slices.Clone(row)})
		}
	}
	return l
}

// invalidBigInts returns values that are no BigInts.
func invalidBigInts() []impl.BigInt {
	l := []impl.BigInt{{Neg: true}, {Neg: true, Mag: []int{}}}
	for _, row := range invalidNats() {
		l = append(l, impl.BigInt{Mag: row}, impl.BigInt{Neg: true, Mag: slices.Clone(row)})
	}
	return l
}

// bigIntOperation is a function of two BigInts, with its counterpart of math/big.
type bigIntOperation struct {
	name string
	run  func(x, y impl.BigInt) impl.BigInt
	want func(z, x, y *big.Int) *big.Int
}

func bigIntOperations() []bigIntOperation {
	return []bigIntOperation{
		{"BigIntAdd", impl.BigIntAdd, (*big.Int).Add},
		{"BigIntSub", impl.BigIntSub, (*big.Int).Sub},
		{"BigIntMul", impl.BigIntMul, (*big.Int).Mul},
	}
}

func checkBigInts(t *testing.T, x, y impl.BigInt) {
	t.Helper()
	a, b := integerOf(x), integerOf(y)
	for _, operation := range bigIntOperations() {
		want := bigIntOf(operation.want(new(big.Int), a, b))
		if got := operation.run(x, y); !sameBigInt(got, want) {
			t.Errorf("%s(%v, %v) = %v, want %v", operation.name, x, y, got, want)
		}
	}
	if got, want := impl.BigIntCmp(x, y), a.Cmp(b); got != want {
		t.Errorf("BigIntCmp(%v, %v) = %d, want %d", x, y, got, want)
	}
}

func checkFloorDiv(t *testing.T, x impl.BigInt, m []int) {
	t.Helper()
	quotient, rest := impl.BigIntFloorDiv(x, m)
	var wantQuotient impl.BigInt
	var wantRest []int
	if len(m) > 0 {
		// DivMod leaves a remainder of at least 0, and so for a positive divisor its quotient is the floor.
		q, r := new(big.Int).DivMod(integerOf(x), valueOf(m), new(big.Int))
		wantQuotient, wantRest = bigIntOf(q), limbsOf(r)
	}
	if !sameBigInt(quotient, wantQuotient) || !slices.Equal(rest, wantRest) {
		t.Errorf("BigIntFloorDiv(%v, %v) = %v, %v, want %v, %v", x, m, quotient, rest, wantQuotient, wantRest)
	}
}

// P18.
func TestBigIntOk(t *testing.T) {
	for _, x := range sampleBigInts() {
		if !impl.BigIntOk(x) {
			t.Errorf("BigIntOk(%v) is false", x)
		}
	}
	for _, x := range invalidBigInts() {
		if impl.BigIntOk(x) {
			t.Errorf("BigIntOk(%v) is true", x)
		}
	}
	for _, mag := range [][]int{nil, {}} {
		if !impl.BigIntOk(impl.BigInt{Mag: mag}) || impl.BigIntOk(impl.BigInt{Neg: true, Mag: mag}) {
			t.Errorf("BigIntOk of 0 with the magnitude %#v", mag)
		}
	}
}

// P1, P18.
func TestBigIntOfAndBigIntToInt(t *testing.T) {
	for _, n := range append(sampleInts(), impl.Base-1, impl.Base, impl.Base+1, -impl.Base, 1-impl.Base, -impl.Base-1) {
		x := impl.BigIntOf(n)
		if want := bigIntOf(big.NewInt(int64(n))); !sameBigInt(x, want) {
			t.Errorf("BigIntOf(%d) = %v, want %v", n, x, want)
		}
		// The least int has a magnitude that no int has.
		want, wantOk := n, n != math.MinInt
		if !wantOk {
			want = 0
		}
		if m, ok := impl.BigIntToInt(x); m != want || ok != wantOk {
			t.Errorf("BigIntToInt(BigIntOf(%d)) = %d, %v", n, m, ok)
		}
	}
}

// P18.
func TestBigIntOfTheGreatestAndTheLeastInt(t *testing.T) {
	greatest, oneMore := []int{854775807, 223372036, 9}, []int{854775808, 223372036, 9}
	if got := impl.BigIntOf(math.MaxInt); !sameBigInt(got, impl.BigInt{Mag: greatest}) {
		t.Errorf("BigIntOf the greatest int = %v", got)
	}
	if got := impl.BigIntOf(math.MinInt); !sameBigInt(got, impl.BigInt{Neg: true, Mag: oneMore}) {
		t.Errorf("BigIntOf the least int = %v", got)
	}
	for _, neg := range []bool{false, true} {
		want := math.MaxInt
		if neg {
			want = -math.MaxInt
		}
		if n, ok := impl.BigIntToInt(impl.BigInt{Neg: neg, Mag: greatest}); n != want || !ok {
			t.Errorf("BigIntToInt of the greatest magnitude, negative %v = %d, %v", neg, n, ok)
		}
		if n, ok := impl.BigIntToInt(impl.BigInt{Neg: neg, Mag: oneMore}); n != 0 || ok {
			t.Errorf("BigIntToInt of one more, negative %v = %d, %v", neg, n, ok)
		}
	}
}

// P18.
func TestBigIntToIntOfSamples(t *testing.T) {
	greatest := big.NewInt(math.MaxInt)
	for _, x := range sampleBigInts() {
		want, wantOk := 0, valueOf(x.Mag).Cmp(greatest) <= 0
		if wantOk {
			want = int(integerOf(x).Int64())
		}
		if n, ok := impl.BigIntToInt(x); n != want || ok != wantOk {
			t.Errorf("BigIntToInt(%v) = %d, %v, want %d, %v", x, n, ok, want, wantOk)
		}
	}
}

// P1, P18.
func TestBigIntNeg(t *testing.T) {
	for _, x := range sampleBigInts() {
		got := impl.BigIntNeg(x)
		if want := bigIntOf(new(big.Int).Neg(integerOf(x))); !sameBigInt(got, want) {
			t.Errorf("BigIntNeg(%v) = %v, want %v", x, got, want)
		}
		if back := impl.BigIntNeg(got); !sameBigInt(back, x) {
			t.Errorf("BigIntNeg twice: %v becomes %v", x, back)
		}
	}
}

// P1, P18.
func TestBigIntArithmeticOfSmallInts(t *testing.T) {
	for a := -30; a <= 30; a++ {
		for b := -30; b <= 30; b++ {
			x, y := impl.BigIntOf(a), impl.BigIntOf(b)
			results := []impl.BigInt{impl.BigIntAdd(x, y), impl.BigIntSub(x, y), impl.BigIntMul(x, y)}
			for i, want := range []int{a + b, a - b, a * b} {
				if impl.FormatBigInt(results[i]) != impl.FormatInt(want) {
					t.Errorf("result %d of %d and %d is %v, want %d", i, a, b, results[i], want)
				}
			}
			checkBigInts(t, x, y)
		}
	}
}

// P1, P18. Opposite numbers and products with 0 are among the pairs, and so are sums of one limb more than MaxLimbs.
func TestBigIntArithmeticOfSamples(t *testing.T) {
	samples := sampleBigInts()
	for _, x := range samples {
		for _, y := range samples {
			checkBigInts(t, x, y)
		}
	}
}

// P18. A 0 has no sign, whatever the signs of the arguments.
func TestBigIntResultsThatAreZero(t *testing.T) {
	zeros := []impl.BigInt{{}, {Mag: []int{}}}
	for _, x := range sampleBigInts() {
		opposite := impl.BigInt{Neg: !x.Neg && len(x.Mag) > 0, Mag: slices.Clone(x.Mag)}
		results := []impl.BigInt{impl.BigIntAdd(x, opposite), impl.BigIntAdd(opposite, x), impl.BigIntSub(x, x)}
		for _, zero := range zeros {
			results = append(results, impl.BigIntMul(x, zero), impl.BigIntMul(zero, x))
			if got := impl.BigIntAdd(x, zero); !sameBigInt(got, x) {
				t.Errorf("%v + 0 = %v", x, got)
			}
			if got := impl.BigIntAdd(zero, x); !sameBigInt(got, x) {
				t.Errorf("0 + %v = %v", x, got)
			}
			if got := impl.BigIntSub(x, zero); !sameBigInt(got, x) {
				t.Errorf("%v - 0 = %v", x, got)
			}
			if got := impl.BigIntSub(zero, x); !sameBigInt(got, opposite) {
				t.Errorf("0 - %v = %v", x, got)
			}
		}
		for i, got := range results {
			if !isZeroBigInt(got) {
				t.Errorf("result %d of %v is %v, want 0", i, x, got)
			}
		}
	}
	for _, zero := range zeros {
		if got := impl.BigIntNeg(zero); !isZeroBigInt(got) {
			t.Errorf("BigIntNeg of 0 = %v", got)
		}
	}
}

// P18. Magnitudes of exactly MaxLimbs limbs are results, and one limb more gives the zero value.
func TestBigIntResultsAtTheLimit(t *testing.T) {
	greatest := rowOfEqual(impl.Base-1, impl.MaxLimbs)
	below := slices.Clone(greatest)
	below[0]--
	one := []int{1}
	number := func(neg bool, row []int) impl.BigInt { return impl.BigInt{Neg: neg, Mag: row} }
	for _, neg := range []bool{false, true} {
		most := number(neg, greatest)
		for _, got := range []impl.BigInt{
			impl.BigIntAdd(number(neg, below), number(neg, one)),
			impl.BigIntSub(number(neg, below), number(!neg, one)),
			impl.BigIntMul(most, number(false, one)),
			impl.BigIntMul(number(!neg, greatest), number(true, one)),
			impl.BigIntNeg(number(!neg, greatest)),
		} {
			if !sameBigInt(got, most) {
				t.Errorf("the greatest magnitude, negative %v: %v", neg, got)
			}
		}
		for _, got := range []impl.BigInt{
			impl.BigIntAdd(most, number(neg, one)),
			impl.BigIntAdd(number(neg, one), most),
			impl.BigIntSub(most, number(!neg, one)),
			impl.BigIntSub(number(neg, one), number(!neg, greatest)),
			impl.BigIntMul(most, number(true, []int{2})),
			impl.BigIntMul(number(neg, powerOfBase(30)), number(true, powerOfBase(30))),
			impl.BigIntMul(most, most),
		} {
			if !isZeroBigInt(got) {
				t.Errorf("a magnitude that is too great, negative %v: %v", neg, got)
			}
		}
		if got, want := impl.BigIntAdd(most, number(!neg, one)), number(neg, below); !sameBigInt(got, want) {
			t.Errorf("the greatest magnitude less 1, negative %v: %v", neg, got)
		}
		if got := impl.BigIntMul(number(neg, powerOfBase(30)), number(true, powerOfBase(29))); !sameBigInt(got, number(!neg, powerOfBase(59))) {
			t.Errorf("a product of MaxLimbs limbs, negative %v: %v", !neg, got)
		}
	}
}

// P1. The laws hold wherever the results have at most MaxLimbs limbs.
func TestBigIntLaws(t *testing.T) {
	samples := slices.DeleteFunc(sampleBigInts(), func(x impl.BigInt) bool { return len(x.Mag) > 20 })
	add, sub, mul, neg := impl.BigIntAdd, impl.BigIntSub, impl.BigIntMul, impl.BigIntNeg
	for _, x := range samples {
		for _, y := range samples {
			if !sameBigInt(add(x, y), add(y, x)) || !sameBigInt(mul(x, y), mul(y, x)) {
				t.Errorf("%v and %v do not commute", x, y)
			}
			if !sameBigInt(sub(add(x, y), y), x) || !sameBigInt(sub(x, y), add(x, neg(y))) || !sameBigInt(sub(x, y), neg(sub(y, x))) {
				t.Errorf("the difference of %v and %v", x, y)
			}
			if !sameBigInt(mul(neg(x), y), neg(mul(x, y))) {
				t.Errorf("the sign of the product of %v and %v", x, y)
			}
			if impl.BigIntCmp(x, y) != impl.BigIntCmp(sub(x, y), impl.BigInt{}) || impl.BigIntCmp(x, y) != -impl.BigIntCmp(y, x) {
				t.Errorf("the order of %v and %v", x, y)
			}
			for _, z := range samples {
				if !sameBigInt(add(add(x, y), z), add(x, add(y, z))) || !sameBigInt(mul(mul(x, y), z), mul(x, mul(y, z))) {
					t.Errorf("%v, %v and %v do not associate", x, y, z)
				}
				if !sameBigInt(mul(x, add(y, z)), add(mul(x, y), mul(x, z))) {
					t.Errorf("%v does not distribute over %v and %v", x, y, z)
				}
			}
		}
	}
}

// P18.
func TestBigIntFloorDiv(t *testing.T) {
	cases := []struct {
		x        string
		m        string
		quotient string
		rest     string
	}{
		{"0", "7", "0", "0"},
		{"7", "2", "3", "1"},
		{"-7", "2", "-4", "1"},
		{"8", "2", "4", "0"},
		{"-8", "2", "-4", "0"},
		{"7", "7", "1", "0"},
		{"-7", "7", "-1", "0"},
		{"6", "7", "0", "6"},
		{"-6", "7", "-1", "1"},
		{"-1", "7", "-1", "6"},
		{"-1", "1", "-1", "0"},
		{"-8", "7", "-2", "6"},
		{"5", "1000000000000000000000", "0", "5"},
		{"-5", "1000000000000000000000", "-1", "999999999999999999995"},
		{"-1000000000000000000000", "1000000000000000000000", "-1", "0"},
		{"-1000000000000000000001", "1000000000000000000000", "-2", "999999999999999999999"},
		{"-999999999999999999", "2", "-500000000000000000", "1"},
		{"-1999999999", "2", "-1000000000", "1"},
		{"-" + strings.Repeat("9", 540), "2", "-5" + strings.Repeat("0", 539), "1"},
		{"-" + strings.Repeat("9", 540), "1", "-" + strings.Repeat("9", 540), "0"},
		{"-1", strings.Repeat("9", 540), "-1", strings.Repeat("9", 539) + "8"},
	}
	for _, c := range cases {
		x, _ := impl.ParseBigInt(c.x)
		m, _ := impl.ParseNat(c.m)
		quotient, rest := impl.BigIntFloorDiv(x, m)
		if impl.FormatBigInt(quotient) != c.quotient || impl.FormatNat(rest) != c.rest {
			t.Errorf("BigIntFloorDiv of %s and %s = %v, %v, want %s, %s", c.x, c.m, quotient, rest, c.quotient, c.rest)
		}
	}
}

// P1, P18.
func TestBigIntFloorDivOfSamples(t *testing.T) {
	for _, x := range sampleBigInts() {
		for _, m := range sampleNats() {
			checkFloorDiv(t, x, m)
		}
	}
	r := rand.New(rand.NewSource(5))
	for range 5000 {
		m := randomRow(r, 1+r.Intn(30))
		multiple := new(big.Int).Mul(valueOf(m), valueOf(randomRow(r, r.Intn(30))))
		for d := int64(-1); d <= 1; d++ {
			n := new(big.Int).Add(multiple, big.NewInt(d))
			checkFloorDiv(t, bigIntOf(n), m)
			checkFloorDiv(t, bigIntOf(n.Neg(n)), m)
		}
	}
}

// P1. The remainder is from 0 up to the divisor, and the quotient times the divisor plus the remainder is the dividend.
func TestBigIntFloorDivLaw(t *testing.T) {
	for a := -100; a <= 100; a++ {
		for d := 1; d <= 40; d++ {
			quotient, rest := impl.BigIntFloorDiv(impl.BigIntOf(a), impl.NatOf(d))
			r, _ := impl.NatToInt(rest)
			whole := impl.BigIntAdd(impl.BigIntMul(quotient, impl.BigIntOf(d)), impl.BigInt{Mag: rest})
			if !sameBigInt(whole, impl.BigIntOf(a)) || r >= d || !impl.BigIntOk(quotient) || !impl.NatOk(rest) {
				t.Errorf("BigIntFloorDiv of %d and %d = %v, %v", a, d, quotient, rest)
			}
		}
	}
}

// P18.
func TestBigIntFloorDivRejectsDivisors(t *testing.T) {
	divisors := append(invalidNats(), nil, []int{})
	for _, x := range []impl.BigInt{{}, impl.BigIntOf(7), impl.BigIntOf(-7), impl.BigIntOf(math.MinInt), {Neg: true, Mag: rowOfEqual(8, impl.MaxLimbs)}} {
		for _, m := range divisors {
			if quotient, rest := impl.BigIntFloorDiv(x, m); !isZeroBigInt(quotient) || len(rest) > 0 {
				t.Errorf("BigIntFloorDiv(%v, %v) = %v, %v", x, m, quotient, rest)
			}
		}
	}
}

// P18. Whatever else is given, an argument that is not valid makes all results zero values.
func TestBigIntFunctionsRejectInvalidArguments(t *testing.T) {
	others := []impl.BigInt{{}, impl.BigIntOf(1), impl.BigIntOf(-1), impl.BigIntOf(5000000006), {Neg: true, Mag: rowOfEqual(9, impl.MaxLimbs)}, {Neg: true}, {Mag: []int{-1}}}
	for _, x := range invalidBigInts() {
		if n, ok := impl.BigIntToInt(x); n != 0 || ok {
			t.Errorf("BigIntToInt(%v) = %d, %v", x, n, ok)
		}
		if got := impl.BigIntNeg(x); !isZeroBigInt(got) {
			t.Errorf("BigIntNeg(%v) = %v", x, got)
		}
		if s := impl.FormatBigInt(x); s != "" {
			t.Errorf("FormatBigInt(%v) = %q", x, s)
		}
		for _, m := range [][]int{{1}, {2}, {5, 6}, nil, {0}} {
			if quotient, rest := impl.BigIntFloorDiv(x, m); !isZeroBigInt(quotient) || len(rest) > 0 {
				t.Errorf("BigIntFloorDiv(%v, %v) = %v, %v", x, m, quotient, rest)
			}
		}
		for _, y := range append(others, x) {
			if impl.BigIntCmp(x, y) != 0 || impl.BigIntCmp(y, x) != 0 {
				t.Errorf("BigIntCmp orders %v and %v", x, y)
			}
			for _, operation := range bigIntOperations() {
				if got, back := operation.run(x, y), operation.run(y, x); !isZeroBigInt(got) || !isZeroBigInt(back) {
					t.Errorf("%s of %v and %v has the results %v and %v", operation.name, x, y, got, back)
				}
			}
		}
	}
}

func bigIntText() textForm[impl.BigInt] {
	return textForm[impl.BigInt]{impl.FormatBigInt, impl.ParseBigInt, sameBigInt}
}

// P1, P18.
func TestFormatBigIntAndParseBigInt(t *testing.T) {
	texts := map[string]impl.BigInt{
		"0":                             {},
		"7":                             {Mag: []int{7}},
		"-7":                            {Neg: true, Mag: []int{7}},
		"-1000000000":                   {Neg: true, Mag: []int{0, 1}},
		"12000000345":                   {Mag: []int{345, 12}},
		"-9223372036854775808":          {Neg: true, Mag: []int{854775808, 223372036, 9}},
		strings.Repeat("9", 540):        {Mag: rowOfEqual(999999999, 60)},
		"-" + strings.Repeat("9", 540):  {Neg: true, Mag: rowOfEqual(999999999, 60)},
		"-1" + strings.Repeat("0", 531): {Neg: true, Mag: powerOfBase(59)},
	}
	for s, x := range texts {
		bigIntText().check(t, x, s)
	}
	for _, x := range sampleBigInts() {
		bigIntText().check(t, x, integerOf(x).String())
	}
}

// P1, P18.
func TestParseBigIntRejects(t *testing.T) {
	invalid := []string{
		"", "-", "+", "--", "-+", "+-", "-0", "+0", "--0", "-00", "00", "+1", "--1", "---1", "-+1", "+-1", "- 1", "-1-", "1-",
		"01", "-01", "-007", "-0000000000", "-01000000000", "-" + strings.Repeat("0", 540),
		"-0" + strings.Repeat("9", 539), "0" + strings.Repeat("9", 540), strings.Repeat("9", 541), "-" + strings.Repeat("9", 541),
		"1" + strings.Repeat("0", 540), "-1" + strings.Repeat("0", 540), "--" + strings.Repeat("9", 540),
		" ", " -1", "-1 ", "-1\n", "\n-1", "-1_0", "-1.0", "-1e3", "-0x1", "-x", "x", "-12x", "1-23456789", "-1-23456789",
		"\x00", "-\x00", "-1\x00", "\xff", "-\xff", "\u22121", "\u20101", "\uff0d1", "-\u0663", "-\uff11", "-1é",
	}
	bigIntText().checkRejects(t, invalid)
}

// P1, P18.
func TestParseBigIntTakesExactlyTheTextsOfNumbers(t *testing.T) {
	for _, s := range textsOver(4, "-", "+", "0", "1", "90000000", " ", "\xff") {
		x, ok := impl.ParseBigInt(s)
		want, isNumber := new(big.Int).SetString(s, 10)
		wantOk := isNumber && want.String() == s
		if ok != wantOk || ok && !sameBigInt(x, bigIntOf(want)) || !ok && !isZeroBigInt(x) {
			t.Errorf("ParseBigInt(%q) = %v, %v", s, x, ok)
		}
	}
}

// Chapter 1: arguments and the capacity behind them stay as they are, and results share no memory with them. Among the
// pairs are those for which a function could return an argument itself.
func TestBigIntMemory(t *testing.T) {
	rows := [][]int{nil, {1}, {5, 6}, {0, 0, 1}, {7, 0, 1}, rowOfEqual(impl.Base-1, impl.MaxLimbs), {-1}, {5, 0}}
	operations := bigIntOperations()
	operations = append(operations, bigIntOperation{name: "BigIntNeg", run: func(x, _ impl.BigInt) impl.BigInt { return impl.BigIntNeg(x) }})
	for _, operation := range operations {
		for _, a := range rows {
			for _, b := range rows {
				for signs := range 4 {
					rowA, wholeA := inFrontOf(a, 0, 1, 2)
					rowB, wholeB := inFrontOf(b, 0, 3, 4)
					beforeA, beforeB := slices.Clone(wholeA), slices.Clone(wholeB)
					x, y := impl.BigInt{Neg: signs&1 > 0, Mag: rowA}, impl.BigInt{Neg: signs&2 > 0, Mag: rowB}
					spoil(operation.run(x, y).Mag)
					if !slices.Equal(wholeA, beforeA) || !slices.Equal(wholeB, beforeB) {
						t.Errorf("%s(%v, %v), signs %d: the arguments become %v and %v", operation.name, a, b, signs, wholeA, wholeB)
					}
				}
			}
		}
	}
}

// Chapter 1: the same for the division, whose two results do not share memory with each other either.
func TestBigIntFloorDivMemory(t *testing.T) {
	rows := [][]int{nil, {1}, {2}, {5, 6}, {0, 0, 1}, {7, 0, 1}, rowOfEqual(impl.Base-1, impl.MaxLimbs), {-1}, {5, 0}}
	for _, a := range rows {
		for _, b := range rows {
			for _, neg := range []bool{false, true} {
				rowA, wholeA := inFrontOf(a, 0, 1, 2)
				rowB, wholeB := inFrontOf(b, 0, 3, 4)
				beforeA, beforeB := slices.Clone(wholeA), slices.Clone(wholeB)
				quotient, rest := impl.BigIntFloorDiv(impl.BigInt{Neg: neg, Mag: rowA}, rowB)
				beforeRest := slices.Clone(rest)
				spoil(quotient.Mag)
				if !slices.Equal(rest, beforeRest) {
					t.Errorf("BigIntFloorDiv of %v, negative %v, and %v: the results share memory", a, neg, b)
				}
				spoil(rest)
				if !slices.Equal(wholeA, beforeA) || !slices.Equal(wholeB, beforeB) {
					t.Errorf("BigIntFloorDiv of %v, negative %v, and %v: the arguments become %v and %v", a, neg, b, wholeA, wholeB)
				}
			}
		}
	}
}

// Chapter 1: the other functions leave their arguments as they are too, and no state is kept between calls.
func TestBigIntStateIsNotKept(t *testing.T) {
	for _, x := range append(sampleBigInts(), invalidBigInts()...) {
		row, whole := inFrontOf(x.Mag, 0, 1, 2)
		before := slices.Clone(whole)
		x.Mag = row
		impl.BigIntOk(x)
		impl.BigIntToInt(x)
		impl.BigIntCmp(x, x)
		impl.FormatBigInt(x)
		if !slices.Equal(whole, before) {
			t.Errorf("%v was changed to %v", before, whole)
		}
	}
	want := impl.BigInt{Neg: true, Mag: []int{7, 5}}
	for range 3 {
		x := impl.BigIntOf(-5000000007)
		y, ok := impl.ParseBigInt("-5000000007")
		if !ok || !sameBigInt(x, want) || !sameBigInt(y, want) {
			t.Errorf("BigIntOf = %v, ParseBigInt = %v, %v", x, y, ok)
		}
		spoil(x.Mag)
		spoil(y.Mag)
	}
}
