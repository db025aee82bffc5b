package tests

import (
	"math"
	"math/big"
	"math/rand"
	"slices"
	"strings"
	"testing"

	"loop.example/g00810/impl"
)

// quotientOf returns the number that a valid r stands for.
func quotientOf(r impl.Rat) *big.Rat {
	return new(big.Rat).SetFrac(integerOf(r.Num), valueOf(r.Den))
}

// ratOf returns q as a Rat, or the zero value if q needs more than MaxRat limbs above or below.
func ratOf(q *big.Rat) impl.Rat {
	num, den := limbsOf(new(big.Int).Abs(q.Num())), limbsOf(q.Denom())
	tooLarge := len(num) > impl.MaxRat || len(den) > impl.MaxRat || len(den) == 0 || q.Sign() != 0 && len(num) == 0
	if tooLarge {
		return impl.Rat{}
	}
	return impl.Rat{Num: impl.BigInt{Neg: q.Sign() < 0, Mag: num}, Den: den}
}

func fractionOf(neg bool, num []int, den []int) impl.Rat {
	return impl.Rat{Num: impl.BigInt{Neg: neg, Mag: num}, Den: den}
}

// sameRat does not call RatEqual, which is tested with it.
func sameRat(r, s impl.Rat) bool { return sameBigInt(r.Num, s.Num) && slices.Equal(r.Den, s.Den) }

func isZeroRat(r impl.Rat) bool { return isZeroBigInt(r.Num) && len(r.Den) == 0 }

// sampleRats returns valid fractions with both signs: small ones, whole ones, those with exactly MaxRat limbs above, below
// and in both places, pairs that differ by little, and some without a pattern.
func sampleRats() []impl.Rat {
	most := valueOf(rowOfEqual(impl.Base-1, impl.MaxRat))
	one := big.NewInt(1)
	pairs := [][2]*big.Int{
		{big.NewInt(0), one}, {most, one}, {one, most}, {most, new(big.Int).Sub(most, one)}, {new(big.Int).Sub(most, one), most},
		{new(big.Int).Sub(most, one), new(big.Int).Sub(most, big.NewInt(2))},
		{valueOf(powerOfBase(23)), one}, {one, valueOf(powerOfBase(23))}, {most, big.NewInt(7)}, {big.NewInt(7), most},
		{valueOf(powerOfBase(12)), big.NewInt(7)}, {big.NewInt(3), valueOf(powerOfBase(12))},
		{big.NewInt(math.MaxInt), big.NewInt(math.MaxInt - 1)}, {big.NewInt(impl.Base), big.NewInt(impl.Base - 1)},
	}
	for n := int64(1); n <= 6; n++ {
		for d := int64(1); d <= 6; d++ {
			if new(big.Int).GCD(nil, nil, big.NewInt(n), big.NewInt(d)).Cmp(one) == 0 {
				pairs = append(pairs, [2]*big.Int{big.NewInt(n), big.NewInt(d)})
			}
		}
	}
	r := rand.New(rand.NewSource(7))
	for n := 1; n <= impl.MaxRat; n += 3 {
		pairs = append(pairs, [2]*big.Int{valueOf(randomRow(r, n)), valueOf(randomRow(r, impl.MaxRat+1-n))})
		pairs = append(pairs, [2]*big.Int{valueOf(randomRow(r, n)), valueOf(randomRow(r, n))})
	}
	var l []impl.Rat
	for _, pair := range pairs {
		q := new(big.Rat).SetFrac(pair[0], pair[1])
		l = append(l, ratOf(q))
		if q.Sign() != 0 {
			l = append(l, ratOf(q.Neg(q)))
		}
	}
	return l
}

// invalidRats returns values that are no fractions.
func invalidRats() []impl.Rat {
	most := rowOfEqual(impl.Base-1, impl.MaxRat)
	l := []impl.Rat{
		{}, fractionOf(false, []int{}, []int{}), fractionOf(true, nil, nil), fractionOf(false, []int{5}, nil), fractionOf(true, []int{5}, []int{}),
		fractionOf(false, nil, []int{2}), fractionOf(false, nil, []int{0, 1}), fractionOf(false, nil, most),
		fractionOf(true, nil, []int{1}), fractionOf(true, []int{}, []int{1}), fractionOf(true, nil, []int{2}),
		fractionOf(false, []int{2}, []int{4}), fractionOf(true, []int{2}, []int{4}), fractionOf(false, []int{4}, []int{2}),
		fractionOf(true, []int{3}, []int{3}), fractionOf(false, []int{0, 1}, []int{2}), fractionOf(false, []int{5}, []int{0, 1}),
		fractionOf(false, most, most), fractionOf(true, most, []int{3}), fractionOf(false, []int{9}, most),
		fractionOf(false, powerOfBase(impl.MaxRat), []int{1}), fractionOf(true, powerOfBase(impl.MaxRat), []int{1}),
		fractionOf(false, []int{1}, powerOfBase(impl.MaxRat)), fractionOf(true, []int{1}, powerOfBase(impl.MaxRat)),
		fractionOf(false, rowOfEqual(1, impl.MaxRat+1), powerOfBase(impl.MaxRat)),
		fractionOf(false, rowOfEqual(8, impl.MaxLimbs), []int{1}), fractionOf(false, []int{1}, rowOfEqual(8, impl.MaxLimbs)),
	}
	for _, x := range invalidBigInts() {
		l = append(l, impl.Rat{Num: x, Den: []int{1}}, impl.Rat{Num: x, Den: []int{7}})
	}
	for _, row := range invalidNats() {
		l = append(l, fractionOf(false, nil, row), fractionOf(false, []int{1}, row), fractionOf(true, []int{1}, slices.Clone(row)))
	}
	return l
}

// ratOperation is a function of two fractions, with its counterpart of math/big.
type ratOperation struct {
	name string
	run  func(r, s impl.Rat) impl.Rat
	want func(z, r, s *big.Rat) *big.Rat
}

func ratOperations() []ratOperation {
	return []ratOperation{
		{"RatAdd", impl.RatAdd, (*big.Rat).Add},
		{"RatSub", impl.RatSub, (*big.Rat).Sub},
		{"RatMul", impl.RatMul, (*big.Rat).Mul},
		{"RatDiv", impl.RatDiv, func(z, r, s *big.Rat) *big.Rat {
			if s.Sign() == 0 {
				return nil
			}
			return z.Quo(r, s)
		}},
		{"RatMin", impl.RatMin, func(z, r, s *big.Rat) *big.Rat {
			if r.Cmp(s) < 0 {
				return z.Set(r)
			}
			return z.Set(s)
		}},
		{"RatMax", impl.RatMax, func(z, r, s *big.Rat) *big.Rat {
			if r.Cmp(s) > 0 {
				return z.Set(r)
			}
			return z.Set(s)
		}},
	}
}

func checkRats(t *testing.T, r, s impl.Rat) {
	t.Helper()
	p, q := quotientOf(r), quotientOf(s)
	for _, operation := range ratOperations() {
		var want impl.Rat
		if z := operation.want(new(big.Rat), p, q); z != nil {
			want = ratOf(z)
		}
		got := operation.run(r, s)
		if !sameRat(got, want) {
			t.Errorf("%s(%v, %v) = %v, want %v", operation.name, r, s, got, want)
		}
		if !isZeroRat(got) && !impl.RatOk(got) {
			t.Errorf("%s(%v, %v) = %v, which is not valid", operation.name, r, s, got)
		}
	}
	if got, want := impl.RatCmp(r, s), p.Cmp(q); got != want {
		t.Errorf("RatCmp(%v, %v) = %d, want %d", r, s, got, want)
	}
}

// P18.
func TestRatOk(t *testing.T) {
	if impl.MaxRat != 24 {
		t.Errorf("MaxRat = %d", impl.MaxRat)
	}
	for _, r := range sampleRats() {
		if !impl.RatOk(r) {
			t.Errorf("RatOk(%v) is false", r)
		}
	}
	for _, r := range invalidRats() {
		if impl.RatOk(r) {
			t.Errorf("RatOk(%v) is true", r)
		}
	}
	for _, mag := range [][]int{nil, {}} {
		if !impl.RatOk(fractionOf(false, mag, []int{1})) || impl.RatOk(fractionOf(false, mag, []int{2})) {
			t.Errorf("RatOk of 0 with the magnitude %#v", mag)
		}
	}
}

// P18. Exactly MaxRat limbs are few enough, and one more is too many, above and below.
func TestRatOkAtTheLimit(t *testing.T) {
	for _, neg := range []bool{false, true} {
		for n := 1; n <= impl.MaxLimbs; n++ {
			// Neighboring numbers have the greatest common divisor 1.
			above := powerOfBase(n - 1)
			above[0]++
			rows := [][2][]int{{above, powerOfBase(n - 1)}, {above, []int{1}}, {powerOfBase(n - 1), []int{1}}}
			if n > 1 {
				rows = append(rows, [2][]int{{1}, above}, [2][]int{powerOfBase(n - 1), above})
			}
			for _, pair := range rows {
				if got := impl.RatOk(fractionOf(neg, pair[0], pair[1])); got != (n <= impl.MaxRat) {
					t.Errorf("RatOk is %v for %d limbs above and %d below, negative %v", got, len(pair[0]), len(pair[1]), neg)
				}
			}
		}
	}
}

// P1, P18.
func TestRatOfSmallInts(t *testing.T) {
	for n := -40; n <= 40; n++ {
		if got, want := impl.RatFromInt(n), ratOf(big.NewRat(int64(n), 1)); !sameRat(got, want) {
			t.Errorf("RatFromInt(%d) = %v, want %v", n, got, want)
		}
		for d := -40; d <= 40; d++ {
			var want impl.Rat
			if d != 0 {
				want = ratOf(big.NewRat(int64(n), int64(d)))
			}
			if got := impl.RatOf(n, d); !sameRat(got, want) {
				t.Errorf("RatOf(%d, %d) = %v, want %v", n, d, got, want)
			}
			if got := impl.RatMake(impl.BigIntOf(n), impl.BigIntOf(d)); !sameRat(got, want) {
				t.Errorf("RatMake of %d and %d = %v, want %v", n, d, got, want)
			}
		}
	}
}

// P18.
func TestRatOfTheGreatestAndTheLeastInt(t *testing.T) {
	cases := []struct {
		n    int
		d    int
		text string
	}{
		{math.MaxInt, 1, "9223372036854775807"},
		{math.MinInt, 1, "-9223372036854775808"},
		{math.MaxInt, -1, "-9223372036854775807"},
		{math.MinInt, -1, "9223372036854775808"},
		{1, math.MaxInt, "1/9223372036854775807"},
		{1, math.MinInt, "-1/9223372036854775808"},
		{-1, math.MinInt, "1/9223372036854775808"},
		{math.MinInt, math.MinInt, "1"},
		{math.MaxInt, math.MaxInt, "1"},
		{math.MaxInt, -math.MaxInt, "-1"},
		{math.MinInt, math.MaxInt, "-9223372036854775808/9223372036854775807"},
		{math.MaxInt, math.MinInt, "-9223372036854775807/9223372036854775808"},
		{math.MinInt, 1 << 62, "-2"},
		{math.MinInt, -1 << 62, "2"},
		{0, math.MinInt, "0"},
		{math.MinInt, 0, ""},
		{math.MaxInt, 0, ""},
		{0, 0, ""},
		{0, -5, "0"},
		{6, -4, "-3/2"},
	}
	for _, c := range cases {
		if got := impl.FormatRat(impl.RatOf(c.n, c.d)); got != c.text {
			t.Errorf("RatOf(%d, %d) is %q, want %q", c.n, c.d, got, c.text)
		}
		if got := impl.FormatRat(impl.RatMake(impl.BigIntOf(c.n), impl.BigIntOf(c.d))); got != c.text {
			t.Errorf("RatMake of %d and %d is %q, want %q", c.n, c.d, got, c.text)
		}
	}
	for _, n := range sampleInts() {
		if got := impl.FormatRat(impl.RatFromInt(n)); got != impl.FormatInt(n) {
			t.Errorf("RatFromInt(%d) is %q", n, got)
		}
	}
}

// P18. The arguments of RatMake are BigInts of up to MaxLimbs limbs: only what is left after reducing has to be small.
func TestRatMakeOfSamples(t *testing.T) {
	samples := sampleBigInts()
	for _, x := range samples {
		for _, y := range samples {
			var want impl.Rat
			if len(y.Mag) > 0 {
				want = ratOf(new(big.Rat).SetFrac(integerOf(x), integerOf(y)))
			}
			if got := impl.RatMake(x, y); !sameRat(got, want) {
				t.Errorf("RatMake(%v, %v) = %v, want %v", x, y, got, want)
			}
		}
	}
}

// P18.
func TestRatMakeReducesLargeNumbers(t *testing.T) {
	r := rand.New(rand.NewSource(8))
	for _, s := range sampleRats() {
		common := valueOf(randomRow(r, impl.MaxLimbs-impl.MaxRat))
		num, den := new(big.Int).Mul(integerOf(s.Num), common), new(big.Int).Mul(valueOf(s.Den), common)
		if got := impl.RatMake(bigIntOf(num), bigIntOf(den)); !sameRat(got, s) {
			t.Errorf("RatMake(%v, %v) = %v, want %v", num, den, got, s)
		}
		want := ratOf(new(big.Rat).Neg(quotientOf(s)))
		if got := impl.RatMake(bigIntOf(num), bigIntOf(den.Neg(den))); !sameRat(got, want) {
			t.Errorf("RatMake(%v, %v) = %v, want %v", num, den, got, want)
		}
	}
	zero := impl.BigInt{}
	for _, mag := range [][]int{{1}, rowOfEqual(impl.Base-1, impl.MaxLimbs)} {
		for _, neg := range []bool{false, true} {
			x := impl.BigInt{Neg: neg, Mag: mag}
			if got := impl.RatMake(zero, x); !sameRat(got, fractionOf(false, nil, []int{1})) {
				t.Errorf("RatMake(0, %v) = %v", x, got)
			}
			if got := impl.RatMake(x, zero); !isZeroRat(got) {
				t.Errorf("RatMake(%v, 0) = %v", x, got)
			}
			if got := impl.RatMake(x, x); !sameRat(got, fractionOf(false, []int{1}, []int{1})) {
				t.Errorf("RatMake(%v, %v) = %v", x, x, got)
			}
		}
	}
}

// P18.
func TestRatMakeRejectsInvalidArguments(t *testing.T) {
	others := []impl.BigInt{{}, impl.BigIntOf(1), impl.BigIntOf(-6), {Neg: true, Mag: rowOfEqual(9, impl.MaxLimbs)}, {Neg: true}}
	for _, x := range invalidBigInts() {
		for _, y := range append(others, x) {
			if got, back := impl.RatMake(x, y), impl.RatMake(y, x); !isZeroRat(got) || !isZeroRat(back) {
				t.Errorf("RatMake of %v and %v: %v, and the other way %v", x, y, got, back)
			}
		}
	}
}

// P1, P18.
func TestRatArithmeticOfSmallFractions(t *testing.T) {
	var l []impl.Rat
	for n := -7; n <= 7; n++ {
		for d := 1; d <= 7; d++ {
			if r := ratOf(big.NewRat(int64(n), int64(d))); valueOf(r.Den).Cmp(big.NewInt(int64(d))) == 0 {
				l = append(l, r)
			}
		}
	}
	for _, r := range l {
		for _, s := range l {
			checkRats(t, r, s)
		}
	}
}

// P1, P18. Sums, products and quotients of more than MaxRat limbs are among the results, and so are those that only become
// small enough when they are reduced.
func TestRatArithmeticOfSamples(t *testing.T) {
	samples := sampleRats()
	tooLarge, large := 0, 0
	for _, r := range samples {
		for _, s := range samples {
			checkRats(t, r, s)
			product := impl.RatMul(r, s)
			if isZeroRat(product) {
				tooLarge++
			}
			if len(product.Den) == impl.MaxRat || len(product.Num.Mag) == impl.MaxRat {
				large++
			}
		}
	}
	if tooLarge < 100 || large < 100 {
		t.Errorf("%d products are too large and %d have MaxRat limbs", tooLarge, large)
	}
}

// P18.
func TestRatResultsAtTheLimit(t *testing.T) {
	greatest := rowOfEqual(impl.Base-1, impl.MaxRat)
	below := slices.Clone(greatest)
	below[0]--
	one, half := impl.RatFromInt(1), impl.RatOf(1, 2)
	for _, neg := range []bool{false, true} {
		most, least := fractionOf(neg, greatest, []int{1}), fractionOf(neg, []int{1}, greatest)
		unit := one
		if neg {
			unit = impl.RatNeg(one)
		}
		valid := map[string][2]impl.Rat{
			"sum":           {impl.RatAdd(fractionOf(neg, below, []int{1}), unit), most},
			"difference":    {impl.RatSub(fractionOf(neg, below, []int{1}), impl.RatNeg(unit)), most},
			"product":       {impl.RatMul(most, one), most},
			"quotient":      {impl.RatDiv(most, one), most},
			"inverse":       {impl.RatDiv(one, most), least},
			"inverse again": {impl.RatDiv(one, least), most},
			"reduced":       {impl.RatMul(most, least), one},
			"itself":        {impl.RatDiv(most, most), one},
			"opposite":      {impl.RatNeg(impl.RatNeg(most)), most},
			"powers":        {impl.RatMul(fractionOf(neg, powerOfBase(12), []int{1}), fractionOf(false, powerOfBase(11), []int{1})), fractionOf(neg, powerOfBase(23), []int{1})},
		}
		for name, pair := range valid {
			if !sameRat(pair[0], pair[1]) || !impl.RatOk(pair[0]) {
				t.Errorf("%s, negative %v: %v, want %v", name, neg, pair[0], pair[1])
			}
		}
		for i, got := range []impl.Rat{
			impl.RatAdd(most, unit), impl.RatAdd(unit, most), impl.RatSub(most, impl.RatNeg(unit)), impl.RatSub(unit, impl.RatNeg(most)),
			impl.RatMul(most, impl.RatFromInt(-2)), impl.RatMul(most, most), impl.RatMul(least, half), impl.RatMul(least, least),
			impl.RatDiv(most, half), impl.RatDiv(least, impl.RatFromInt(2)), impl.RatDiv(most, least), impl.RatDiv(half, most),
			impl.RatAdd(most, half), impl.RatAdd(least, half), impl.RatSub(least, half),
			impl.RatMul(fractionOf(neg, powerOfBase(12), []int{1}), fractionOf(false, powerOfBase(12), []int{1})),
			impl.RatMake(impl.BigInt{Neg: neg, Mag: powerOfBase(24)}, impl.BigIntOf(1)), impl.RatMake(impl.BigIntOf(1), impl.BigInt{Neg: neg, Mag: powerOfBase(24)}),
		} {
			if !isZeroRat(got) {
				t.Errorf("result %d is too large and not the zero value, negative %v: %v", i, neg, got)
			}
		}
	}
}

// P18. A 0 has no sign and the denominator 1.
func TestRatResultsThatAreZero(t *testing.T) {
	zero := fractionOf(false, nil, []int{1})
	for _, r := range sampleRats() {
		opposite := ratOf(new(big.Rat).Neg(quotientOf(r)))
		results := []impl.Rat{
			impl.RatAdd(r, opposite), impl.RatSub(r, r), impl.RatMul(r, zero), impl.RatMul(zero, r), impl.RatNeg(zero), impl.RatFromInt(0),
		}
		if len(r.Num.Mag) > 0 {
			results = append(results, impl.RatDiv(zero, r))
		}
		for i, got := range results {
			if !sameRat(got, zero) {
				t.Errorf("result %d of %v is %v, want 0", i, r, got)
			}
		}
		if got := impl.RatDiv(r, zero); !isZeroRat(got) {
			t.Errorf("RatDiv(%v, 0) = %v", r, got)
		}
		if got := impl.RatNeg(r); !sameRat(got, opposite) {
			t.Errorf("RatNeg(%v) = %v, want %v", r, got, opposite)
		}
		for _, got := range []impl.Rat{impl.RatAdd(r, zero), impl.RatAdd(zero, r), impl.RatSub(r, zero), impl.RatNeg(impl.RatSub(zero, r))} {
			if !sameRat(got, r) {
				t.Errorf("%v and 0 give %v", r, got)
			}
		}
	}
}

// P1. The laws hold wherever no result has more than MaxRat limbs.
func TestRatLaws(t *testing.T) {
	samples := slices.DeleteFunc(sampleRats(), func(r impl.Rat) bool { return len(r.Num.Mag) > 3 || len(r.Den) > 3 })
	add, sub, mul, div, neg := impl.RatAdd, impl.RatSub, impl.RatMul, impl.RatDiv, impl.RatNeg
	for _, r := range samples {
		for _, s := range samples {
			if !sameRat(add(r, s), add(s, r)) || !sameRat(mul(r, s), mul(s, r)) {
				t.Errorf("%v and %v do not commute", r, s)
			}
			if !sameRat(sub(add(r, s), s), r) || !sameRat(sub(r, s), add(r, neg(s))) || !sameRat(mul(neg(r), s), neg(mul(r, s))) {
				t.Errorf("the difference or the sign of %v and %v", r, s)
			}
			if impl.RatSign(s) != 0 && (!sameRat(mul(div(r, s), s), r) || !sameRat(div(mul(r, s), s), r)) {
				t.Errorf("the quotient of %v and %v", r, s)
			}
			if impl.RatCmp(r, s) != impl.RatSign(sub(r, s)) || impl.RatCmp(r, s) != -impl.RatCmp(s, r) {
				t.Errorf("the order of %v and %v", r, s)
			}
			if !sameRat(add(impl.RatMin(r, s), impl.RatMax(r, s)), add(r, s)) {
				t.Errorf("the smaller and the greater of %v and %v", r, s)
			}
			for _, z := range samples {
				if !sameRat(add(add(r, s), z), add(r, add(s, z))) || !sameRat(mul(mul(r, s), z), mul(r, mul(s, z))) {
					t.Errorf("%v, %v and %v do not associate", r, s, z)
				}
				if !sameRat(mul(r, add(s, z)), add(mul(r, s), mul(r, z))) {
					t.Errorf("%v does not distribute over %v and %v", r, s, z)
				}
			}
		}
	}
}

// P1, P18. Fractions of many limbs that differ by as little as fractions of MaxRat limbs can.
func TestRatOrderOfCloseFractions(t *testing.T) {
	most := valueOf(rowOfEqual(impl.Base-1, impl.MaxRat))
	less := func(d int64) *big.Int { return new(big.Int).Sub(most, big.NewInt(d)) }
	ascending := []impl.Rat{
		ratOf(new(big.Rat).SetFrac(most, less(1)).Neg(new(big.Rat).SetFrac(most, less(1)))),
		impl.RatFromInt(-1),
		ratOf(new(big.Rat).Neg(new(big.Rat).SetFrac(less(1), most))),
		ratOf(new(big.Rat).Neg(new(big.Rat).SetFrac(less(2), less(1)))),
		ratOf(new(big.Rat).SetFrac(big.NewInt(-1), less(1))),
		ratOf(new(big.Rat).SetFrac(big.NewInt(-1), most)),
		impl.RatFromInt(0),
		ratOf(new(big.Rat).SetFrac(big.NewInt(1), most)),
		ratOf(new(big.Rat).SetFrac(big.NewInt(1), less(1))),
		ratOf(new(big.Rat).SetFrac(less(2), less(1))),
		ratOf(new(big.Rat).SetFrac(less(1), most)),
		impl.RatFromInt(1),
		ratOf(new(big.Rat).SetFrac(most, less(1))),
		ratOf(new(big.Rat).SetFrac(less(1), less(2))),
		ratOf(new(big.Rat).SetInt(less(1))),
		ratOf(new(big.Rat).SetInt(most)),
	}
	for i, r := range ascending {
		for j, s := range ascending {
			want := 0
			switch {
			case i < j:
				want = -1
			case i > j:
				want = 1
			}
			if got := impl.RatCmp(r, s); got != want {
				t.Errorf("RatCmp of %d and %d = %d", i, j, got)
			}
			if !sameRat(impl.RatMin(r, s), ascending[min(i, j)]) || !sameRat(impl.RatMax(r, s), ascending[max(i, j)]) {
				t.Errorf("RatMin or RatMax of %d and %d", i, j)
			}
		}
	}
}

// P18.
func TestRatSign(t *testing.T) {
	for _, r := range sampleRats() {
		if got, want := impl.RatSign(r), quotientOf(r).Sign(); got != want {
			t.Errorf("RatSign(%v) = %d, want %d", r, got, want)
		}
	}
	for _, r := range invalidRats() {
		if got := impl.RatSign(r); got != 0 {
			t.Errorf("RatSign(%v) = %d", r, got)
		}
	}
}

// P18. The comparison is of fields and elements, valid or not.
func TestRatEqual(t *testing.T) {
	different := []impl.Rat{
		fractionOf(false, []int{5, 6, 7}, []int{8, 9, 10}), fractionOf(true, []int{5, 6, 7}, []int{8, 9, 10}),
		fractionOf(false, []int{4, 6, 7}, []int{8, 9, 10}), fractionOf(false, []int{5, 4, 7}, []int{8, 9, 10}), fractionOf(false, []int{5, 6, 4}, []int{8, 9, 10}),
		fractionOf(false, []int{5, 6, 7}, []int{4, 9, 10}), fractionOf(false, []int{5, 6, 7}, []int{8, 4, 10}), fractionOf(false, []int{5, 6, 7}, []int{8, 9, 4}),
		fractionOf(false, []int{5, 6}, []int{8, 9, 10}), fractionOf(false, []int{5, 6, 7}, []int{8, 9}),
		fractionOf(false, []int{5, 6, 7, 0}, []int{8, 9, 10}), fractionOf(false, []int{5, 6, 7}, []int{8, 9, 10, 0}),
		fractionOf(false, []int{5, 6, 7, 8}, []int{9, 10}), fractionOf(false, []int{1}, []int{2}), fractionOf(false, []int{2}, []int{4}),
		fractionOf(false, []int{2}, []int{1}), fractionOf(false, nil, []int{1}), fractionOf(true, nil, []int{1}), fractionOf(false, nil, []int{2}),
		fractionOf(false, []int{1}, nil), fractionOf(true, []int{1}, nil), fractionOf(true, nil, nil), {}, fractionOf(false, nil, []int{-1}),
		fractionOf(false, rowOfEqual(1, 70), []int{1}), fractionOf(false, []int{1}, rowOfEqual(1, 70)),
	}
	for i, r := range different {
		for j, s := range different {
			copied := fractionOf(s.Num.Neg, slices.Clone(s.Num.Mag), slices.Clone(s.Den))
			if got := impl.RatEqual(r, copied); got != (i == j) {
				t.Errorf("RatEqual(%v, %v) = %v", r, s, got)
			}
		}
	}
	if !impl.RatEqual(fractionOf(false, nil, nil), fractionOf(false, []int{}, []int{})) {
		t.Error("RatEqual distinguishes a nil slice from an empty one")
	}
	for _, r := range sampleRats() {
		for _, s := range sampleRats() {
			if got := impl.RatEqual(r, s); got != (impl.RatCmp(r, s) == 0) {
				t.Errorf("RatEqual(%v, %v) = %v", r, s, got)
			}
		}
	}
}

// P18. Whatever else is given, an argument that is not valid makes all results zero values.
func TestRatFunctionsRejectInvalidArguments(t *testing.T) {
	others := []impl.Rat{{}, impl.RatFromInt(0), impl.RatFromInt(1), impl.RatOf(-6, 7), fractionOf(true, rowOfEqual(9, impl.MaxRat), []int{1}), fractionOf(false, []int{2}, []int{4}), fractionOf(false, nil, []int{-1})}
	for _, r := range invalidRats() {
		if got := impl.RatNeg(r); !isZeroRat(got) {
			t.Errorf("RatNeg(%v) = %v", r, got)
		}
		if s := impl.FormatRat(r); s != "" {
			t.Errorf("FormatRat(%v) = %q", r, s)
		}
		for _, s := range append(others, r) {
			if impl.RatCmp(r, s) != 0 || impl.RatCmp(s, r) != 0 {
				t.Errorf("RatCmp orders %v and %v", r, s)
			}
			for _, operation := range ratOperations() {
				if got, back := operation.run(r, s), operation.run(s, r); !isZeroRat(got) || !isZeroRat(back) {
					t.Errorf("%s of %v and %v has the results %v and %v", operation.name, r, s, got, back)
				}
			}
		}
	}
}

// P18. A fraction that becomes too large makes everything that is computed from it the zero value.
func TestRatTooLargeStaysTheZeroValue(t *testing.T) {
	r := impl.RatOf(2, 3)
	steps := 0
	for ; impl.RatOk(r); steps++ {
		r = impl.RatMul(r, r)
	}
	// 2 to the power of 512 has fewer than 24 times 9 digits, and 3 to the power of 512 has more.
	if steps != 9 {
		t.Errorf("2/3 is too large after %d squares", steps)
	}
	for _, got := range []impl.Rat{impl.RatSub(r, r), impl.RatMul(r, impl.RatFromInt(0)), impl.RatDiv(r, r), impl.RatNeg(r), impl.RatMin(r, impl.RatFromInt(1)), impl.RatMax(impl.RatFromInt(1), r)} {
		if !isZeroRat(got) {
			t.Errorf("a result of the zero value is %v", got)
		}
	}
}

func ratText() textForm[impl.Rat] {
	return textForm[impl.Rat]{impl.FormatRat, impl.ParseRat, sameRat}
}

// P1, P18.
func TestFormatRatAndParseRat(t *testing.T) {
	nines := strings.Repeat("9", 216)
	texts := map[string]impl.Rat{
		"0":                                 fractionOf(false, nil, []int{1}),
		"7":                                 fractionOf(false, []int{7}, []int{1}),
		"-7":                                fractionOf(true, []int{7}, []int{1}),
		"1/2":                               fractionOf(false, []int{1}, []int{2}),
		"-3/2":                              fractionOf(true, []int{3}, []int{2}),
		"-1000000000/3":                     fractionOf(true, []int{0, 1}, []int{3}),
		"3/1000000000":                      fractionOf(false, []int{3}, []int{0, 1}),
		"1/1000000001":                      fractionOf(false, []int{1}, []int{1, 1}),
		"-12000000345/2000000000002":        fractionOf(true, []int{345, 12}, []int{2, 2000}),
		nines:                               fractionOf(false, rowOfEqual(999999999, 24), []int{1}),
		"-" + nines:                         fractionOf(true, rowOfEqual(999999999, 24), []int{1}),
		"1/" + nines:                        fractionOf(false, []int{1}, rowOfEqual(999999999, 24)),
		"-" + nines + "/" + nines[1:] + "8": fractionOf(true, rowOfEqual(999999999, 24), append([]int{999999998}, rowOfEqual(999999999, 23)...)),
		"-1/1" + strings.Repeat("0", 207):   fractionOf(true, []int{1}, powerOfBase(23)),
	}
	for s, r := range texts {
		ratText().check(t, r, s)
	}
	for _, r := range sampleRats() {
		ratText().check(t, r, quotientOf(r).RatString())
	}
}

// P1, P18.
func TestParseRatRejects(t *testing.T) {
	nines := strings.Repeat("9", 216)
	invalid := []string{
		"", "/", "-", "-/", "/-", "//", "1/", "/1", "/2", "-/2", "1/-", "5/1", "-5/1", "0/1", "0/2", "-0", "-0/2", "0/0", "1/0", "-1/0", "1/00",
		"2/4", "-2/4", "4/2", "3/3", "10/5", "1000000000/2", "1/-2", "-1/-2", "1/+2", "+1/2", "+1", "--1/2", "1//2", "1/2/3", "1/2/", "/1/2",
		"01/2", "1/02", "-01/2", "1/01", "00", "007", "1/0002", " 1/2", "1/2 ", "1 /2", "1/ 2", "1/2\n", "\n1/2", "1\\2", "1:2", "1.5", "1e3",
		"0x1/2", "1/x", "x/2", "1_0/3", "\x00", "1/2\x00", "\xff", "1/\xff", "1\u20442", "1\u22152", "\u22121/2", "\uff11/2", "1/\u0662", "\u00bd",
		nines + "9", "-" + nines + "9", "1" + strings.Repeat("0", 216), "1/" + nines + "9", "1/1" + strings.Repeat("0", 216),
		nines + "9/2", nines + "/" + nines, nines + "/1", nines + "/9", "1/" + strings.Repeat("9", 540), "1/" + strings.Repeat("9", 541),
		strings.Repeat("9", 540) + "/" + strings.Repeat("9", 539), "0/" + nines, "1/0" + nines[1:], "0" + nines[1:] + "/2",
		strings.Repeat("9", 5000), strings.Repeat("1/", 300), strings.Repeat("/", 300),
	}
	ratText().checkRejects(t, invalid)
}

// P1, P18.
func TestParseRatTakesExactlyTheTextsOfFractions(t *testing.T) {
	count := 0
	for _, s := range textsOver(5, "-", "/", "0", "1", "2", "3", "+", "900000000") {
		r, ok := impl.ParseRat(s)
		want, isNumber := new(big.Rat).SetString(s)
		wantOk := isNumber && want.RatString() == s
		if ok != wantOk || ok && !sameRat(r, ratOf(want)) || !ok && !isZeroRat(r) {
			t.Errorf("ParseRat(%q) = %v, %v", s, r, ok)
		}
		if ok {
			count++
		}
	}
	if count < 1000 {
		t.Errorf("only %d of the texts are fractions", count)
	}
}

// memoryRats returns fractions for which a function could return an argument, or a part of one, itself.
func memoryRats() []impl.Rat {
	most := rowOfEqual(impl.Base-1, impl.MaxRat)
	return []impl.Rat{
		fractionOf(false, nil, []int{1}), fractionOf(false, []int{1}, []int{1}), fractionOf(true, []int{1}, []int{1}), fractionOf(false, []int{5, 6}, []int{1}),
		fractionOf(true, []int{5, 6}, []int{7, 8}), fractionOf(true, []int{1}, []int{7, 8}), fractionOf(false, most, []int{7}), fractionOf(false, []int{7}, most),
		{}, fractionOf(false, []int{2}, []int{4}), fractionOf(true, nil, []int{1}), fractionOf(false, []int{-1}, []int{5}), fractionOf(false, []int{1}, []int{5, 0}),
	}
}

// guarded returns r with its rows at the front of longer arrays, and these arrays.
func guarded(r impl.Rat) (impl.Rat, [][]int) {
	num, wholeNum := inFrontOf(r.Num.Mag, 0, 1, 2)
	den, wholeDen := inFrontOf(r.Den, 0, 3, 4)
	return fractionOf(r.Num.Neg, num, den), [][]int{wholeNum, wholeDen}
}

func cloneRows(rows [][]int) [][]int {
	var l [][]int
	for _, row := range rows {
		l = append(l, slices.Clone(row))
	}
	return l
}

func sameRows(a, b [][]int) bool {
	return slices.EqualFunc(a, b, func(x, y []int) bool { return slices.Equal(x, y) })
}

// spoilRat writes over both rows of a result, and reports whether they are apart.
func spoilRat(r impl.Rat) bool {
	den := slices.Clone(r.Den)
	spoil(r.Num.Mag)
	apart := slices.Equal(r.Den, den)
	spoil(r.Den)
	return apart
}

// Chapter 1: arguments and the capacity behind them stay as they are, and results share no memory with them or with each
// other.
func TestRatMemory(t *testing.T) {
	operations := append(ratOperations(),
		ratOperation{name: "RatNeg", run: func(r, _ impl.Rat) impl.Rat { return impl.RatNeg(r) }},
		ratOperation{name: "RatMake", run: func(r, s impl.Rat) impl.Rat { return impl.RatMake(r.Num, s.Num) }},
		ratOperation{name: "RatMake of rows", run: func(r, s impl.Rat) impl.Rat { return impl.RatMake(r.Num, impl.BigInt{Mag: s.Den}) }},
		ratOperation{name: "the rest", run: func(r, s impl.Rat) impl.Rat {
			impl.RatOk(r)
			impl.RatCmp(r, s)
			impl.RatSign(r)
			impl.RatEqual(r, s)
			impl.FormatRat(r)
			return impl.Rat{}
		}})
	for _, operation := range operations {
		for _, first := range memoryRats() {
			for _, second := range memoryRats() {
				r, wholeR := guarded(first)
				s, wholeS := guarded(second)
				beforeR, beforeS := cloneRows(wholeR), cloneRows(wholeS)
				if !spoilRat(operation.run(r, s)) {
					t.Errorf("%s(%v, %v): the numerator and the denominator share memory", operation.name, first, second)
				}
				if !sameRows(wholeR, beforeR) || !sameRows(wholeS, beforeS) {
					t.Errorf("%s(%v, %v): the arguments become %v and %v", operation.name, first, second, wholeR, wholeS)
				}
			}
		}
	}
}

// Chapter 1: one argument given twice is read twice, and no state is kept between calls.
func TestRatStateIsNotKept(t *testing.T) {
	for range 3 {
		for _, c := range []struct {
			got  impl.Rat
			text string
		}{
			{impl.RatFromInt(5), "5"}, {impl.RatFromInt(0), "0"}, {impl.RatOf(1, 1), "1"}, {impl.RatOf(10, -4), "-5/2"},
			{impl.RatMake(impl.BigIntOf(1), impl.BigIntOf(1)), "1"},
		} {
			if impl.FormatRat(c.got) != c.text {
				t.Errorf("%v, want %s", c.got, c.text)
			}
			r, ok := impl.ParseRat(c.text)
			if !ok || !sameRat(r, c.got) {
				t.Errorf("ParseRat(%q) = %v, %v", c.text, r, ok)
			}
			if !spoilRat(r) || !spoilRat(c.got) {
				t.Errorf("%s: the numerator and the denominator share memory", c.text)
			}
		}
		r := impl.RatOf(-5, 7)
		if impl.FormatRat(impl.RatMul(r, r)) != "25/49" || impl.FormatRat(impl.RatAdd(r, r)) != "-10/7" || impl.RatSign(impl.RatSub(r, r)) != 0 || impl.FormatRat(impl.RatDiv(r, r)) != "1" {
			t.Errorf("%v with itself", r)
		}
	}
}
