package tests

import (
	"math"
	"math/big"
	"math/rand"
	"slices"
	"strings"
	"testing"

	"loop.example/g00810/impl"
)

// valueOf returns the number that a row of limbs stands for.
func valueOf(row []int) *big.Int {
	n := new(big.Int)
	for i := len(row) - 1; i >= 0; i-- {
		n.Mul(n, big.NewInt(impl.Base))
		n.Add(n, big.NewInt(int64(row[i])))
	}
	return n
}

// limbsOf returns the row of limbs of n, or nil if n is negative or needs more than MaxLimbs limbs.
func limbsOf(n *big.Int) []int {
	if n.Sign() < 0 {
		return nil
	}
	var row []int
	limb := new(big.Int)
	for n.Sign() > 0 {
		n, limb = new(big.Int).QuoRem(n, big.NewInt(impl.Base), limb)
		row = append(row, int(limb.Int64()))
	}
	if len(row) > impl.MaxLimbs {
		return nil
	}
	return row
}

func rowOfEqual(limb int, length int) []int {
	row := make([]int, length)
	for i := range row {
		row[i] = limb
	}
	return row
}

// powerOfBase returns Base to the power of n.
func powerOfBase(n int) []int { return append(rowOfEqual(0, n), 1) }

func randomRow(r *rand.Rand, length int) []int {
	row := make([]int, length)
	for i := range row {
		row[i] = r.Intn(impl.Base)
	}
	if length > 0 {
		row[length-1] = 1 + r.Intn(impl.Base-1)
	}
	return row
}

// sampleNats returns numbers with 0 to MaxLimbs limbs: small ones, those around the powers of Base and of 2, those with
// many equal limbs, and some without a pattern.
func sampleNats() [][]int {
	rows := [][]int{nil, {}, {1}, {2}, {3}, {12}, {18}, {impl.Base/2 - 1}, {impl.Base / 2}, {impl.Base - 1}, {6, 0, 9}}
	for _, n := range []uint{31, 32, 62, 63, 64, 128, 600, 1200, 1790} {
		power := new(big.Int).Lsh(big.NewInt(1), n)
		rows = append(rows, limbsOf(new(big.Int).Sub(power, big.NewInt(1))), limbsOf(power), limbsOf(new(big.Int).Add(power, big.NewInt(1))))
	}
	for _, n := range []int{1, 2, 3, 29, 30, 31, 59} {
		above := powerOfBase(n)
		above[0]++
		rows = append(rows, powerOfBase(n), above, rowOfEqual(impl.Base-1, n), rowOfEqual(1, n))
	}
	rows = append(rows, rowOfEqual(impl.Base-1, impl.MaxLimbs), rowOfEqual(1, impl.MaxLimbs))
	r := rand.New(rand.NewSource(2))
	for n := 1; n <= impl.MaxLimbs; n += 4 {
		rows = append(rows, randomRow(r, n))
	}
	return rows
}

// invalidNats returns rows that are no natural numbers.
func invalidNats() [][]int {
	return [][]int{
		{0}, {0, 0}, {5, 0}, {0, 1, 0}, {1, 2, 0, 0},
		{-1}, {-1, 1}, {1, -1}, {5, -3, 7}, {math.MinInt},
		{impl.Base}, {impl.Base, 1}, {1, impl.Base}, {1, impl.Base + 5, 1}, {math.MaxInt}, {1, math.MaxInt},
		rowOfEqual(1, impl.MaxLimbs+1), rowOfEqual(0, impl.MaxLimbs+1), powerOfBase(impl.MaxLimbs),
		append(rowOfEqual(1, impl.MaxLimbs), 0), rowOfEqual(impl.Base-1, 200),
	}
}

// natOperations returns the functions of two numbers that return numbers.
func natOperations() map[string]func(a, b []int) [][]int {
	return map[string]func(a, b []int) [][]int{
		"NatAdd": func(a, b []int) [][]int { return [][]int{impl.NatAdd(a, b)} },
		"NatSub": func(a, b []int) [][]int { return [][]int{impl.NatSub(a, b)} },
		"NatMul": func(a, b []int) [][]int { return [][]int{impl.NatMul(a, b)} },
		"NatGcd": func(a, b []int) [][]int { return [][]int{impl.NatGcd(a, b)} },
		"NatDiv": func(a, b []int) [][]int {
			q, r := impl.NatDiv(a, b)
			return [][]int{q, r}
		},
	}
}

// wantedNat returns what the functions of natOperations must return, by the arithmetic of math/big.
func wantedNat(name string, a []int, b []int) [][]int {
	x, y, z := valueOf(a), valueOf(b), new(big.Int)
	switch name {
	case "NatAdd":
		z.Add(x, y)
	case "NatSub":
		z.Sub(x, y)
	case "NatMul":
		z.Mul(x, y)
	case "NatGcd":
		z.GCD(nil, nil, x, y)
	case "NatDiv":
		if len(b) == 0 {
			return [][]int{nil, nil}
		}
		rest := new(big.Int)
		z.QuoRem(x, y, rest)
		return [][]int{limbsOf(z), limbsOf(rest)}
	}
	return [][]int{limbsOf(z)}
}

func checkOperations(t *testing.T, a []int, b []int) {
	t.Helper()
	for name, operation := range natOperations() {
		got, want := operation(a, b), wantedNat(name, a, b)
		if !slices.EqualFunc(got, want, slices.Equal) {
			t.Errorf("%s(%v, %v) = %v, want %v", name, a, b, got, want)
		}
	}
}

// P18.
func TestNatConstants(t *testing.T) {
	if impl.Base != 1000000000 || impl.MaxLimbs != 60 {
		t.Errorf("Base = %d, MaxLimbs = %d", impl.Base, impl.MaxLimbs)
	}
}

// P18.
func TestNatOk(t *testing.T) {
	for _, a := range sampleNats() {
		if !impl.NatOk(a) {
			t.Errorf("NatOk(%v) is false", a)
		}
	}
	for _, a := range invalidNats() {
		if impl.NatOk(a) {
			t.Errorf("NatOk(%v) is true", a)
		}
	}
}

// P18.
func TestNatOkOfEveryLimb(t *testing.T) {
	for length := 1; length <= impl.MaxLimbs; length++ {
		for i := range length {
			for limb, want := range map[int]bool{0: i < length-1, 1: true, impl.Base - 1: true, -1: false, impl.Base: false} {
				a := rowOfEqual(7, length)
				a[i] = limb
				if got := impl.NatOk(a); got != want {
					t.Errorf("NatOk of %d limbs with %d at %d = %v", length, limb, i, got)
				}
			}
		}
	}
}

// P1, P18.
func TestNatOfAndNatToInt(t *testing.T) {
	for _, n := range append(sampleInts(), impl.Base-1, impl.Base, impl.Base+1) {
		a := impl.NatOf(n)
		if want := limbsOf(big.NewInt(int64(n))); !slices.Equal(a, want) {
			t.Errorf("NatOf(%d) = %v, want %v", n, a, want)
		}
		if m, ok := impl.NatToInt(a); !ok || m != max(n, 0) {
			t.Errorf("NatToInt(NatOf(%d)) = %d, %v", n, m, ok)
		}
	}
}

// P18.
func TestNatToIntOfAllNumbers(t *testing.T) {
	greatest := big.NewInt(math.MaxInt)
	rows := append(sampleNats(), []int{854775807, 223372036, 9}, []int{854775808, 223372036, 9}, []int{0, 223372037, 9},
		[]int{0, 0, 10}, []int{854775806, 223372036, 9}, []int{0, 0, 0, 1}, []int{999999999, 223372036, 9}, []int{0, 0, 9},
		limbsOf(new(big.Int).Lsh(big.NewInt(5), 64)), limbsOf(new(big.Int).Add(new(big.Int).Lsh(big.NewInt(1), 64), big.NewInt(7))))
	for _, a := range rows {
		want, wantOk := 0, valueOf(a).Cmp(greatest) <= 0
		if wantOk {
			want = int(valueOf(a).Int64())
		}
		if n, ok := impl.NatToInt(a); n != want || ok != wantOk {
			t.Errorf("NatToInt(%v) = %d, %v, want %d, %v", a, n, ok, want, wantOk)
		}
	}
}

// P1, P18.
func TestNatCmp(t *testing.T) {
	for _, a := range sampleNats() {
		for _, b := range sampleNats() {
			if got, want := impl.NatCmp(a, b), valueOf(a).Cmp(valueOf(b)); got != want {
				t.Errorf("NatCmp(%v, %v) = %d, want %d", a, b, got, want)
			}
		}
	}
}

// P1, P18.
func TestNatCmpAtEveryLimb(t *testing.T) {
	for i := range impl.MaxLimbs {
		a, b := rowOfEqual(5, impl.MaxLimbs), rowOfEqual(5, impl.MaxLimbs)
		b[i]++
		// The limbs below say the opposite.
		for j := range i {
			a[j]++
		}
		if impl.NatCmp(a, b) != -1 || impl.NatCmp(b, a) != 1 || impl.NatCmp(a, a) != 0 {
			t.Errorf("NatCmp does not see a difference at limb %d", i)
		}
	}
}

// P1, P18.
func TestNatArithmetic(t *testing.T) {
	cases := []struct {
		name string
		a, b []int
		want [][]int
	}{
		{"NatAdd", []int{2}, []int{3}, [][]int{{5}}},
		{"NatAdd", []int{999999999, 999999999}, []int{1}, [][]int{{0, 0, 1}}},
		{"NatAdd", []int{1}, []int{999999999, 999999999}, [][]int{{0, 0, 1}}},
		{"NatSub", []int{5}, []int{3}, [][]int{{2}}},
		{"NatSub", []int{0, 0, 1}, []int{1}, [][]int{{999999999, 999999999}}},
		{"NatSub", []int{7, 7}, []int{7, 7}, [][]int{nil}},
		{"NatSub", []int{8, 7}, []int{7, 7}, [][]int{{1}}},
		{"NatSub", []int{3}, []int{5}, [][]int{nil}},
		{"NatMul", []int{6}, []int{7}, [][]int{{42}}},
		{"NatMul", []int{999999999}, []int{999999999}, [][]int{{1, 999999998}}},
		{"NatMul", []int{0, 1}, []int{0, 0, 5}, [][]int{{0, 0, 0, 5}}},
		{"NatMul", []int{5, 5}, nil, [][]int{nil}},
		{"NatDiv", []int{7}, []int{2}, [][]int{{3}, {1}}},
		{"NatDiv", []int{7}, []int{7}, [][]int{{1}, nil}},
		{"NatDiv", []int{6}, []int{7}, [][]int{nil, {6}}},
		{"NatDiv", []int{5, 6}, []int{0, 0, 1}, [][]int{nil, {5, 6}}},
		{"NatDiv", nil, []int{7}, [][]int{nil, nil}},
		{"NatDiv", []int{7}, nil, [][]int{nil, nil}},
		{"NatDiv", nil, nil, [][]int{nil, nil}},
		{"NatDiv", []int{7, 0, 1}, []int{10}, [][]int{{0, 100000000}, {7}}},
		{"NatGcd", []int{12}, []int{18}, [][]int{{6}}},
		{"NatGcd", []int{18}, []int{12}, [][]int{{6}}},
		{"NatGcd", []int{17}, []int{12}, [][]int{{1}}},
		{"NatGcd", nil, []int{5, 6}, [][]int{{5, 6}}},
		{"NatGcd", []int{5, 6}, nil, [][]int{{5, 6}}},
		{"NatGcd", nil, nil, [][]int{nil}},
		{"NatGcd", []int{0, 0, 1}, []int{0, 5}, [][]int{{0, 5}}},
	}
	for _, c := range cases {
		if got := natOperations()[c.name](c.a, c.b); !slices.EqualFunc(got, c.want, slices.Equal) {
			t.Errorf("%s(%v, %v) = %v, want %v", c.name, c.a, c.b, got, c.want)
		}
	}
}

// P1, P18.
func TestNatArithmeticOfSamples(t *testing.T) {
	for _, a := range sampleNats() {
		for _, b := range sampleNats() {
			checkOperations(t, a, b)
		}
	}
}

// P1, P18. Limbs at the ends of their range are those at which an estimated limb of a quotient is most often wrong.
func TestNatArithmeticOfExtremeLimbs(t *testing.T) {
	limbs := []int{0, 1, 2, impl.Base / 2, impl.Base - 2, impl.Base - 1}
	rows := [][]int{nil}
	for start, length := 0, 0; length < 4; length++ {
		end := len(rows)
		for _, row := range rows[start:end] {
			for _, limb := range limbs {
				rows = append(rows, append(slices.Clone(row), limb))
			}
		}
		start = end
	}
	rows = slices.DeleteFunc(rows, func(row []int) bool { return !impl.NatOk(row) })
	for i, a := range rows {
		for j, b := range rows {
			// A part of the pairs of long rows is enough.
			if len(b) <= 3 && (len(a) <= 2 || (i+j)%7 == 0) || (i+j)%29 == 0 {
				checkOperations(t, a, b)
			}
		}
	}
}

// P1, P18. The dividend is one less than a multiple of the divisor, or that multiple, so that the last limb of the
// quotient is easily one too great.
func TestNatDivAroundMultiples(t *testing.T) {
	r := rand.New(rand.NewSource(3))
	for range 20000 {
		b := randomRow(r, 2+r.Intn(5))
		if r.Intn(2) == 0 {
			b[len(b)-1] = 1
		}
		multiple := new(big.Int).Mul(valueOf(b), valueOf(randomRow(r, 1+r.Intn(4))))
		for d := range int64(3) {
			checkOperations(t, limbsOf(new(big.Int).Sub(multiple, big.NewInt(d))), b)
		}
	}
}

// P1. The laws hold wherever the results have at most MaxLimbs limbs.
func TestNatLaws(t *testing.T) {
	rows := slices.DeleteFunc(sampleNats(), func(row []int) bool { return len(row) > 20 })
	add, mul := impl.NatAdd, impl.NatMul
	for _, a := range rows {
		for _, b := range rows {
			if !slices.Equal(add(a, b), add(b, a)) || !slices.Equal(mul(a, b), mul(b, a)) {
				t.Errorf("%v and %v do not commute", a, b)
			}
			if !slices.Equal(impl.NatSub(add(a, b), b), a) {
				t.Errorf("(a + b) - b is not a for %v and %v", a, b)
			}
			if q, r := impl.NatDiv(a, b); len(b) > 0 && (!slices.Equal(add(mul(q, b), r), a) || impl.NatCmp(r, b) >= 0) {
				t.Errorf("%v / %v = %v, %v", a, b, q, r)
			}
			for _, c := range rows {
				if !slices.Equal(add(add(a, b), c), add(a, add(b, c))) || !slices.Equal(mul(mul(a, b), c), mul(a, mul(b, c))) {
					t.Errorf("%v, %v and %v do not associate", a, b, c)
				}
				if !slices.Equal(mul(a, add(b, c)), add(mul(a, b), mul(a, c))) {
					t.Errorf("%v does not distribute over %v and %v", a, b, c)
				}
			}
		}
	}
}

// P1. A common divisor divides both arguments, and nothing is left in common after it.
func TestNatGcdIsTheGreatest(t *testing.T) {
	r := rand.New(rand.NewSource(4))
	for range 300 {
		c := randomRow(r, 1+r.Intn(20))
		a := impl.NatMul(randomRow(r, 1+r.Intn(40)), c)
		b := impl.NatMul(randomRow(r, 1+r.Intn(40)), c)
		g := impl.NatGcd(a, b)
		x, restA := impl.NatDiv(a, g)
		y, restB := impl.NatDiv(b, g)
		_, restG := impl.NatDiv(g, c)
		if len(restA)+len(restB)+len(restG) > 0 || !slices.Equal(impl.NatGcd(x, y), []int{1}) {
			t.Errorf("NatGcd(%v, %v) = %v", a, b, g)
		}
	}
}

// P18. Successive Fibonacci numbers need the most divisions.
func TestNatGcdOfFibonacciNumbers(t *testing.T) {
	a, b := []int{1}, []int{1}
	for next := impl.NatAdd(a, b); len(next) > 0; next = impl.NatAdd(a, b) {
		a, b = b, next
		if got := impl.NatGcd(a, b); !slices.Equal(got, []int{1}) {
			t.Fatalf("NatGcd(%v, %v) = %v", a, b, got)
		}
	}
	if len(b) != impl.MaxLimbs {
		t.Errorf("the sums end with %d limbs", len(b))
	}
}

// P18.
func TestNatResultsAtTheLimit(t *testing.T) {
	greatest := rowOfEqual(impl.Base-1, impl.MaxLimbs)
	below := slices.Clone(greatest)
	below[0]--
	if got := impl.NatAdd(below, []int{1}); !slices.Equal(got, greatest) {
		t.Errorf("the greatest sum is %v", got)
	}
	for _, b := range [][]int{{1}, {2}, greatest, powerOfBase(impl.MaxLimbs - 1)} {
		if got := impl.NatAdd(greatest, b); len(got) > 0 || len(impl.NatAdd(b, greatest)) > 0 {
			t.Errorf("the greatest number + %v = %v", b, got)
		}
	}
	for i := range impl.MaxLimbs {
		a, b := powerOfBase(i), powerOfBase(impl.MaxLimbs-1-i)
		if got := impl.NatMul(a, b); !slices.Equal(got, powerOfBase(impl.MaxLimbs-1)) {
			t.Errorf("Base^%d * Base^%d = %v", i, impl.MaxLimbs-1-i, got)
		}
		if i > 0 {
			if got := impl.NatMul(a, powerOfBase(impl.MaxLimbs-i)); len(got) > 0 {
				t.Errorf("Base^%d * Base^%d = %v", i, impl.MaxLimbs-i, got)
			}
		}
		c, d := rowOfEqual(impl.Base-1, i+1), rowOfEqual(impl.Base-1, impl.MaxLimbs-1-i)
		if got := impl.NatMul(c, d); !slices.Equal(got, wantedNat("NatMul", c, d)[0]) {
			t.Errorf("(Base^%d - 1) * (Base^%d - 1) = %v", i+1, impl.MaxLimbs-1-i, got)
		}
	}
	if got := impl.NatMul(greatest, greatest); len(got) > 0 {
		t.Errorf("the square of the greatest number is %v", got)
	}
	if q, r := impl.NatDiv(greatest, greatest); !slices.Equal(q, []int{1}) || len(r) > 0 {
		t.Errorf("the greatest number divided by itself is %v, %v", q, r)
	}
}

// P18. Whatever else is given, an argument that is not a natural number makes all results zero values.
func TestNatFunctionsRejectInvalidArguments(t *testing.T) {
	for _, a := range invalidNats() {
		if n, ok := impl.NatToInt(a); n != 0 || ok {
			t.Errorf("NatToInt(%v) = %d, %v", a, n, ok)
		}
		if s := impl.FormatNat(a); s != "" {
			t.Errorf("FormatNat(%v) = %q", a, s)
		}
		for _, b := range [][]int{nil, {1}, {5, 6}, {0, 0, 1}, rowOfEqual(9, impl.MaxLimbs), a, {-1}, {impl.Base}} {
			if impl.NatCmp(a, b) != 0 || impl.NatCmp(b, a) != 0 {
				t.Errorf("NatCmp orders %v and %v", a, b)
			}
			for name, operation := range natOperations() {
				for _, result := range append(operation(a, b), operation(b, a)...) {
					if len(result) > 0 {
						t.Errorf("%s of %v and %v has the result %v", name, a, b, result)
					}
				}
			}
		}
	}
}

func natText() textForm[[]int] {
	return textForm[[]int]{impl.FormatNat, impl.ParseNat, func(a, b []int) bool { return slices.Equal(a, b) }}
}

// P1, P18.
func TestFormatNatAndParseNat(t *testing.T) {
	texts := map[string][]int{
		"0":                              nil,
		"7":                              {7},
		"999999999":                      {999999999},
		"1000000000":                     {0, 1},
		"1000000001":                     {1, 1},
		"12000000345":                    {345, 12},
		"5000000000000000000":            {0, 0, 5},
		"1000000000000000000007":         {7, 0, 1000},
		"100000010000000001":             {1, 100000010},
		"9223372036854775807":            {854775807, 223372036, 9},
		"1" + strings.Repeat("0", 531):   powerOfBase(59),
		strings.Repeat("9", 540):         rowOfEqual(999999999, 60),
		"1" + strings.Repeat("0", 9*7-1): append(rowOfEqual(0, 6), 100000000),
	}
	for s, a := range texts {
		natText().check(t, a, s)
	}
	for _, a := range sampleNats() {
		natText().check(t, a, valueOf(a).String())
	}
}

// P1, P18.
func TestParseNatOfEveryLength(t *testing.T) {
	for n := 1; n <= 1200; n++ {
		for _, s := range []string{strings.Repeat("9", n), "1" + strings.Repeat("0", n-1), strings.Repeat("123456780", n/9+1)[:n]} {
			a, ok := impl.ParseNat(s)
			if ok != (n <= 540) {
				t.Errorf("ParseNat of %d digits: %v", n, ok)
			}
			if ok && impl.FormatNat(a) != s || !ok && len(a) > 0 || !impl.NatOk(a) {
				t.Errorf("ParseNat(%q) = %v", s, a)
			}
		}
	}
}

// P1, P18.
func TestParseNatRejects(t *testing.T) {
	invalid := []string{
		"", "-", "+", "-0", "+0", "-1", "+1", "-12345678901234567890", "+12345678901234567890",
		"00", "01", "007", "0000000000", "01000000000", "000000000000000000001", strings.Repeat("0", 540), strings.Repeat("0", 541),
		"0" + strings.Repeat("9", 539), "0" + strings.Repeat("9", 540), strings.Repeat("9", 541), "1" + strings.Repeat("0", 540),
		" ", " 1", "1 ", "1\n", "1 2", "1_0", "1000000000 000000000", "1,000", "1.0", "1e3", "0x1", "x", "12x", "x12",
		"1-23456789", "1+23456789", "1-00000000", "1 23456789", "12345678-", "1-2345678900000000",
		"\x00", "1\x00", "\xff", "1\xff", "\u0663", "\uff11", "1\uff11", "1é",
	}
	natText().checkRejects(t, invalid)
}

// P1, P18.
func TestParseNatTakesExactlyTheTextsOfNumbers(t *testing.T) {
	for _, s := range textsOver(4, "-", "+", "0", "1", "90000000", " ", "\xff") {
		a, ok := impl.ParseNat(s)
		want, isNumber := new(big.Int).SetString(s, 10)
		wantOk := isNumber && want.String() == s && want.Sign() >= 0
		if ok != wantOk || ok && !slices.Equal(a, limbsOf(want)) || !ok && len(a) > 0 {
			t.Errorf("ParseNat(%q) = %v, %v", s, a, ok)
		}
	}
}

// inFrontOf returns a as the front of a longer array, and that array.
func inFrontOf(a []int, spare ...int) ([]int, []int) {
	whole := append(slices.Clone(a), spare...)
	return whole[:len(a)], whole
}

func spoil(row []int) {
	row = row[:cap(row)]
	for i := range row {
		row[i] = -7
	}
}

// Chapter 1: arguments and the capacity behind them stay as they are, and results share no memory with them or with each
// other. The first rows are those for which a function could return an argument itself.
func TestNatMemory(t *testing.T) {
	pairs := [][2][]int{
		{{5, 6}, nil}, {nil, {5, 6}}, {{5, 6}, {1}}, {{1}, {5, 6}}, {{5, 6}, {5, 6}}, {{0, 0, 1}, {1}}, {{12}, {18}}, {{7, 0, 1}, {1, 2}},
		{rowOfEqual(impl.Base-1, impl.MaxLimbs), rowOfEqual(3, 30)}, {{-1}, {5}}, {{5, 0}, {5}},
	}
	for name, operation := range natOperations() {
		for _, pair := range pairs {
			a, wholeA := inFrontOf(pair[0], 0, 1, 2)
			b, wholeB := inFrontOf(pair[1], 0, 3, 4)
			beforeA, beforeB := slices.Clone(wholeA), slices.Clone(wholeB)
			results := operation(a, b)
			last := results[len(results)-1]
			beforeLast := slices.Clone(last)
			spoil(results[0])
			if len(results) > 1 && !slices.Equal(last, beforeLast) {
				t.Errorf("%s(%v, %v): the results share memory", name, pair[0], pair[1])
			}
			spoil(last)
			if !slices.Equal(wholeA, beforeA) || !slices.Equal(wholeB, beforeB) {
				t.Errorf("%s(%v, %v) changed its arguments to %v and %v", name, pair[0], pair[1], wholeA, wholeB)
			}
		}
	}
}

// Chapter 1: the other functions leave their arguments as they are too, and no state is kept between calls.
func TestNatStateIsNotKept(t *testing.T) {
	for _, row := range append(sampleNats(), invalidNats()...) {
		a, whole := inFrontOf(row, 0, 1, 2)
		before := slices.Clone(whole)
		impl.NatOk(a)
		impl.NatToInt(a)
		impl.NatCmp(a, a)
		impl.FormatNat(a)
		if !slices.Equal(whole, before) {
			t.Errorf("%v was changed to %v", before, whole)
		}
	}
	for range 3 {
		a := impl.NatOf(5000000007)
		b, ok := impl.ParseNat("5000000007")
		if !ok || !slices.Equal(a, []int{7, 5}) || !slices.Equal(b, []int{7, 5}) {
			t.Errorf("NatOf = %v, ParseNat = %v, %v", a, b, ok)
		}
		spoil(a)
		spoil(b)
	}
}
